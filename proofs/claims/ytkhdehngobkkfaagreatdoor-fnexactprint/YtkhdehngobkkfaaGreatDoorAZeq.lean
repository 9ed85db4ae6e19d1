import Derived.Test.YtkhdehngobkkfaaGreatDoorASpb
set_option maxRecDepth 100000
set_option maxHeartbeats 40000000
namespace Go.Proofs.YtkhdehngobkkfaaGreatDoor.Fo
open Go.ChangeShapes Go.WideShapes Go.ChangeAt Go.RowKit
set_option linter.unusedVariables false
variable {W W' w a:World}{b n p q:Nat}{nm fl:ByteArray->Prop}{x:ByteArray}{F:Nat->Gv}{A:Nat->ByteArray}{K:Nat->Int}{v vn vk:Value}
theorem shk_kok{a:Fv}(h:¬kok a.k):¬shk nm fl F a p A q K:=by
 unfold kok at h;unfold shk
 iterate 37 rw[if_neg (by omega)]
 exact id
theorem eqv_all{a:Fv}{i:Int}(h:kok a.k)(hm:-9223372036854775808<=a.m/\a.m<=9223372036854775807):Ipk nm fl F a p A q K i↔Npk nm fl F a p A q K i:=by
 unfold kok at h;have hc:a.k=1\/a.k=2\/a.k=3\/a.k=4\/a.k=5\/a.k=6\/a.k=7\/a.k=8\/a.k=9\/a.k=10\/a.k=11\/a.k=12\/a.k=13\/a.k=14\/a.k=15\/a.k=16\/a.k=20\/a.k=21\/a.k=22\/a.k=23\/a.k=24\/a.k=25\/a.k=26\/a.k=27\/a.k=28\/a.k=29\/a.k=30\/a.k=31\/a.k=32\/a.k=33\/a.k=34\/a.k=35\/a.k=36\/a.k=37\/a.k=40\/a.k=41\/a.k=42:=by omega
 unfold Ipk Npk alw shk;rcases hc with h|h|h|h|h|h|h|h|h|h|h|h|h|h|h|h|h|h|h|h|h|h|h|h|h|h|h|h|h|h|h|h|h|h|h|h|h
 all_goals
  repeat rw[if_neg (by omega)]
  rw[if_pos h,h];simp only[rwk,sdk,Int.reduceToNat];unfold br tk tx
  try unfold nd
  try unfold ex
  simp only[Bool.false_eq_true,false_or,true_or,true_and,and_true];simp only[txo_0,txo_1,txo_3,txo_4];constructor
  ·rintro⟨⟨⟨f1,f2,f3⟩,⟨k1,k2⟩,⟨o1,o2⟩,⟨m1,m2⟩,ht,⟨n1,n2⟩,hn⟩,hk⟩;have kk:∀j,j<q->0<=K j/\K j<i:=λj hj=>⟨(hk j hj).1,(hk j hj).2.1⟩
   have g0:=hk 0;have g1:=hk 1;have g2:=hk 2;have g3:=hk (q-1);refine⟨f1,f2,f3,by omega,kk,?_⟩
   repeat' apply And.intro
   all_goals first|omega|exact ht|exact hn|(intro j;have:=hk j;omega)
  ·rintro⟨f1,f2,f3,hq,kk,c⟩;refine⟨⟨⟨f1,f2,f3⟩,⟨by omega,by omega⟩,⟨by omega,by omega⟩,⟨by omega,by omega⟩,by simp only[c],⟨by omega,by omega⟩,λj hj=>by first|exact absurd hj (by omega)|simp only[c,hj]⟩,λj hj=>⟨(kk j hj).1,(kk j hj).2,?_⟩⟩
   try have g1:=c.1 j
   try have g2:=c.2 j
   try have g3:=c.2.1 j
   try have g4:=c.2.2 j
   try have g5:=c.2.2.1 j
   try have g6:=c.2.2.2 j
   try have g7:=c.2.2.2.1 j
   try have g8:=c.2.2.2.2 j
   first
    |omega
    |rcases Nat.eq_zero_or_pos j with rfl|z<;>omega
    |have e:j=0\/j=1\/j=2\/j=3:=by omega
     rcases e with rfl|rfl|rfl|rfl<;>omega
    |have e:q-1=j\/j<q-1:=by omega
     rcases e with e|e
     ·rw[e]at c;omega
     ·omega
theorem ndk_iff{i:Nat}(hm:-9223372036854775808<=(F i).a.m/\(F i).a.m<=9223372036854775807):ndk nm fl F i↔(kok (F i).a.k/\Ipk nm fl F (F i).a (F i).p (F i).A (F i).q (F i).K (i:Int)):=by
 constructor
 ·intro h;have hk:kok (F i).a.k:=Classical.byContradiction λg=>shk_kok g h.2.2.2.2.2;exact⟨hk,(eqv_all hk hm).2 h⟩
 ·intro h;exact(eqv_all h.1 hm).1 h.2
