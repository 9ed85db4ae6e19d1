import Derived.Test.YtomcmnompajnlaaGreatDoorBTud
import Derived.Test.YtomcmnompajnlaaGreatDoorBSpb
set_option maxRecDepth 100000
set_option maxHeartbeats 4000000
namespace Go.Proofs.YtomcmnompajnlaaGreatDoor.Fo
open Go.ChangeShapes Go.WideShapes Go.ChangeAt Go.RowKit
set_option linter.unusedVariables false
def txo (nm fl:ByteArray→Prop) (t:Int) (x:ByteArray):Prop:=if t=0 then x=⟨#[]⟩ else if t=1 then nm x else if t=3 then fl x else x.size≤4000
theorem txo_0 {nm fl:ByteArray→Prop} {x:ByteArray}:txo nm fl 0 x=(x=⟨#[]⟩):=by unfold txo;rw [if_pos rfl]
theorem txo_1 {nm fl:ByteArray→Prop} {x:ByteArray}:txo nm fl 1 x=nm x:=by unfold txo;rw [if_neg (by decide),if_pos rfl]
theorem txo_3 {nm fl:ByteArray→Prop} {x:ByteArray}:txo nm fl 3 x=fl x:=by unfold txo;rw [if_neg (by decide),if_neg (by decide),if_pos rfl]
theorem txo_4 {nm fl:ByteArray→Prop} {x:ByteArray}:txo nm fl 4 x=(x.size≤4000):=by unfold txo;rw [if_neg (by decide),if_neg (by decide),if_neg (by decide)]
def alw (nm fl:ByteArray→Prop) (r:Rw) (a:Fv) (p:Nat) (A:Nat→ByteArray) (q:Nat):Prop:=(0≤a.f∧a.f≤a.t∧0≤a.l)∧(r.kl≤(q:Int)∧(q:Int)≤r.kh)∧(r.ol≤a.o∧a.o≤r.oh)∧(r.ml≤a.m∧a.m≤r.mh)∧txo nm fl r.t a.x∧(r.nl≤(p:Int)∧(p:Int)≤r.nh)∧∀ j,j < p→nm (A j)
def Ipk (nm fl:ByteArray→Prop) (F:Nat→Gv) (a:Fv) (p:Nat) (A:Nat→ByteArray) (q:Nat) (K:Nat→Int) (i:Int):Prop:=alw nm fl (rwk a.k q) a p A q∧∀ j,j < q→0≤K j∧K j < i∧tk (sdk a.k a.m q j) (kdk F K j)
def Npk (nm fl:ByteArray→Prop) (F:Nat→Gv) (a:Fv) (p:Nat) (A:Nat→ByteArray) (q:Nat) (K:Nat→Int) (i:Int):Prop:=0≤a.f∧a.f≤a.t∧0≤a.l∧q≤200∧(∀ j,j < q→0≤K j∧K j < i)∧shk nm fl F a p A q K
theorem eqv_1 {nm fl:ByteArray→Prop} {F:Nat→Gv} {a:Fv} {p:Nat} {A:Nat→ByteArray} {q:Nat} {K:Nat→Int} {i:Int} (h:a.k=1) (hm : -9223372036854775808≤a.m∧a.m≤9223372036854775807):Ipk nm fl F a p A q K i↔Npk nm fl F a p A q K i:=by
  unfold Ipk Npk alw
  rw [shk_1 h,h]
  have hr:rwk 1 q=⟨0,200,0,0,0,0,0,0,0⟩:=rfl
  have hs:∀ j,sdk 1 a.m q j=0:=fun _=>rfl
  rw [hr,show txo nm fl _ a.x = _ from txo_0]
  simp only [hs]
  unfold br tk tx
  clear hr hs h
  constructor
  · rintro ⟨⟨⟨f1,f2,f3⟩,⟨k1,k2⟩,⟨o1,o2⟩,⟨m1,m2⟩,ht,⟨n1,n2⟩,hn⟩,hk⟩
    have kk:∀ j,j < q→0≤K j∧K j < i:=fun j hj=>⟨(hk j hj).1,(hk j hj).2.1⟩
    exact ⟨f1,f2,f3,by omega,kk,(fun j hj=>by have:=hk j (by omega);omega),⟨.inr (by omega),.inr (by omega),.inr ht,.inr (by omega)⟩⟩
  · rintro ⟨f1,f2,f3,hq,kk,c1,⟨b1,b2,b3,b4⟩⟩
    replace b1:=b1.resolve_left (by decide)
    replace b2:=b2.resolve_left (by decide)
    replace b4:=b4.resolve_left (by decide)
    refine ⟨⟨⟨f1,f2,f3⟩,⟨by omega,by omega⟩,⟨by omega,by omega⟩,⟨by omega,by omega⟩,b3.resolve_left (by decide),⟨by omega,by omega⟩,fun j hj=>by omega⟩,fun j hj=>⟨(kk j hj).1,(kk j hj).2,?_⟩⟩
    skip
    all_goals
     skip
     have g1:=c1 j;skip
     omega
theorem eqv_2 {nm fl:ByteArray→Prop} {F:Nat→Gv} {a:Fv} {p:Nat} {A:Nat→ByteArray} {q:Nat} {K:Nat→Int} {i:Int} (h:a.k=2) (hm : -9223372036854775808≤a.m∧a.m≤9223372036854775807):Ipk nm fl F a p A q K i↔Npk nm fl F a p A q K i:=by
  unfold Ipk Npk alw
  rw [shk_2 h,h]
  have hr:rwk 2 q=⟨0,200,1,200,0,0,0,0,0⟩:=rfl
  have hs:∀ j,sdk 2 a.m q j=3:=fun _=>rfl
  rw [hr,show txo nm fl _ a.x = _ from txo_0]
  simp only [hs]
  unfold br nd ex tk tx
  clear hr hs h
  constructor
  · rintro ⟨⟨⟨f1,f2,f3⟩,⟨k1,k2⟩,⟨o1,o2⟩,⟨m1,m2⟩,ht,⟨n1,n2⟩,hn⟩,hk⟩
    have kk:∀ j,j < q→0≤K j∧K j < i:=fun j hj=>⟨(hk j hj).1,(hk j hj).2.1⟩
    exact ⟨f1,f2,f3,by omega,kk,⟨.inr (by omega),.inr (by omega),.inr ht,.inl rfl⟩,⟨by omega,by omega,hn⟩,(fun j h1 h2=>by have:=hk j (by omega);omega)⟩
  · rintro ⟨f1,f2,f3,hq,kk,⟨b1,b2,b3,b4⟩,⟨d1,d2,hd⟩,c1⟩
    replace b1:=b1.resolve_left (by decide)
    replace b2:=b2.resolve_left (by decide)
    refine ⟨⟨⟨f1,f2,f3⟩,⟨by omega,by omega⟩,⟨by omega,by omega⟩,⟨by omega,by omega⟩,b3.resolve_left (by decide),⟨by omega,by omega⟩,hd⟩,fun j hj=>⟨(kk j hj).1,(kk j hj).2,?_⟩⟩
    skip
    all_goals
     skip
     have g1:=c1 j;skip
     omega
theorem eqv_3 {nm fl:ByteArray→Prop} {F:Nat→Gv} {a:Fv} {p:Nat} {A:Nat→ByteArray} {q:Nat} {K:Nat→Int} {i:Int} (h:a.k=3) (hm : -9223372036854775808≤a.m∧a.m≤9223372036854775807):Ipk nm fl F a p A q K i↔Npk nm fl F a p A q K i:=by
  unfold Ipk Npk alw
  rw [shk_3 h,h]
  have hr:rwk 3 q=⟨1,1,1,1,0,0,0,0,0⟩:=rfl
  have hs:∀ j,sdk 3 a.m q j=3:=fun _=>rfl
  rw [hr,show txo nm fl _ a.x = _ from txo_0]
  simp only [hs]
  unfold br nd ex tk tx
  clear hr hs h
  constructor
  · rintro ⟨⟨⟨f1,f2,f3⟩,⟨k1,k2⟩,⟨o1,o2⟩,⟨m1,m2⟩,ht,⟨n1,n2⟩,hn⟩,hk⟩
    have kk:∀ j,j < q→0≤K j∧K j < i:=fun j hj=>⟨(hk j hj).1,(hk j hj).2.1⟩
    exact ⟨f1,f2,f3,by omega,kk,⟨.inr (by omega),.inr (by omega),.inr ht,.inl rfl⟩,⟨by omega,by omega,hn⟩,(by omega),(fun j h1 h2=>by have:=hk j (by omega);omega)⟩
  · rintro ⟨f1,f2,f3,hq,kk,⟨b1,b2,b3,b4⟩,⟨d1,d2,hd⟩,c1,c2⟩
    replace b1:=b1.resolve_left (by decide)
    replace b2:=b2.resolve_left (by decide)
    refine ⟨⟨⟨f1,f2,f3⟩,⟨by omega,by omega⟩,⟨by omega,by omega⟩,⟨by omega,by omega⟩,b3.resolve_left (by decide),⟨by omega,by omega⟩,hd⟩,fun j hj=>⟨(kk j hj).1,(kk j hj).2,?_⟩⟩
    skip
    all_goals
     skip
     have g2:=c2 j;have e0:j=0∨j=1∨j=2∨j=3:=by omega
     rcases e0 with rfl | rfl | rfl | rfl <;> omega
theorem eqv_4 {nm fl:ByteArray→Prop} {F:Nat→Gv} {a:Fv} {p:Nat} {A:Nat→ByteArray} {q:Nat} {K:Nat→Int} {i:Int} (h:a.k=4) (hm : -9223372036854775808≤a.m∧a.m≤9223372036854775807):Ipk nm fl F a p A q K i↔Npk nm fl F a p A q K i:=by
  unfold Ipk Npk alw
  rw [shk_4 h,h]
  have hr:rwk 4 q=⟨1,1,1,1,0,0,0,0,0⟩:=rfl
  have hs:∀ j,sdk 4 a.m q j=8:=fun _=>rfl
  rw [hr,show txo nm fl _ a.x = _ from txo_0]
  simp only [hs]
  unfold br nd tk tx
  clear hr hs h
  constructor
  · rintro ⟨⟨⟨f1,f2,f3⟩,⟨k1,k2⟩,⟨o1,o2⟩,⟨m1,m2⟩,ht,⟨n1,n2⟩,hn⟩,hk⟩
    have kk:∀ j,j < q→0≤K j∧K j < i:=fun j hj=>⟨(hk j hj).1,(hk j hj).2.1⟩
    exact ⟨f1,f2,f3,by omega,kk,⟨.inr (by omega),.inr (by omega),.inr ht,.inl rfl⟩,⟨by omega,by omega,hn⟩,(by omega),(by have g0:=hk 0 (by omega);omega)⟩
  · rintro ⟨f1,f2,f3,hq,kk,⟨b1,b2,b3,b4⟩,⟨d1,d2,hd⟩,c1,c2⟩
    replace b1:=b1.resolve_left (by decide)
    replace b2:=b2.resolve_left (by decide)
    refine ⟨⟨⟨f1,f2,f3⟩,⟨by omega,by omega⟩,⟨by omega,by omega⟩,⟨by omega,by omega⟩,b3.resolve_left (by decide),⟨by omega,by omega⟩,hd⟩,fun j hj=>⟨(kk j hj).1,(kk j hj).2,?_⟩⟩
    skip
    all_goals
     skip
     have e0:j=0∨j=1∨j=2∨j=3:=by omega
     rcases e0 with rfl | rfl | rfl | rfl <;> omega
theorem eqv_5 {nm fl:ByteArray→Prop} {F:Nat→Gv} {a:Fv} {p:Nat} {A:Nat→ByteArray} {q:Nat} {K:Nat→Int} {i:Int} (h:a.k=5) (hm : -9223372036854775808≤a.m∧a.m≤9223372036854775807):Ipk nm fl F a p A q K i↔Npk nm fl F a p A q K i:=by
  unfold Ipk Npk alw
  rw [shk_5 h,h]
  have hr:rwk 5 q=⟨2,200,0,0,0,0,1,(q:Int) - 1,0⟩:=rfl
  have hs:∀ j,sdk 5 a.m q j=if (j:Int) < a.m then 5 else 3:=fun _=>rfl
  rw [hr,show txo nm fl _ a.x = _ from txo_0]
  simp only [hs]
  unfold br ex tk tx
  clear hr hs h
  constructor
  · rintro ⟨⟨⟨f1,f2,f3⟩,⟨k1,k2⟩,⟨o1,o2⟩,⟨m1,m2⟩,ht,⟨n1,n2⟩,hn⟩,hk⟩
    have kk:∀ j,j < q→0≤K j∧K j < i:=fun j hj=>⟨(hk j hj).1,(hk j hj).2.1⟩
    exact ⟨f1,f2,f3,by omega,kk,⟨.inr (by omega),.inl rfl,.inr ht,.inr (by omega)⟩,(by omega),(by omega),(fun j hj=>by have:=hk j (by omega);omega),(fun j h1 h2=>by have:=hk j (by omega);omega)⟩
  · rintro ⟨f1,f2,f3,hq,kk,⟨b1,b2,b3,b4⟩,c1,c2,c3,c4⟩
    replace b1:=b1.resolve_left (by decide)
    replace b4:=b4.resolve_left (by decide)
    refine ⟨⟨⟨f1,f2,f3⟩,⟨by omega,by omega⟩,⟨by omega,by omega⟩,⟨by omega,by omega⟩,b3.resolve_left (by decide),⟨by omega,by omega⟩,fun j hj=>by omega⟩,fun j hj=>⟨(kk j hj).1,(kk j hj).2,?_⟩⟩
    skip
    all_goals
     skip
     have g3:=c3 j;have g4:=c4 j;skip
     omega
theorem eqv_6 {nm fl:ByteArray→Prop} {F:Nat→Gv} {a:Fv} {p:Nat} {A:Nat→ByteArray} {q:Nat} {K:Nat→Int} {i:Int} (h:a.k=6) (hm : -9223372036854775808≤a.m∧a.m≤9223372036854775807):Ipk nm fl F a p A q K i↔Npk nm fl F a p A q K i:=by
  unfold Ipk Npk alw
  rw [shk_6 h,h]
  have hr:rwk 6 q=⟨1,1,0,0,0,0,0,0,0⟩:=rfl
  have hs:∀ j,sdk 6 a.m q j=6:=fun _=>rfl
  rw [hr,show txo nm fl _ a.x = _ from txo_0]
  simp only [hs]
  unfold br tk tx
  clear hr hs h
  constructor
  · rintro ⟨⟨⟨f1,f2,f3⟩,⟨k1,k2⟩,⟨o1,o2⟩,⟨m1,m2⟩,ht,⟨n1,n2⟩,hn⟩,hk⟩
    have kk:∀ j,j < q→0≤K j∧K j < i:=fun j hj=>⟨(hk j hj).1,(hk j hj).2.1⟩
    exact ⟨f1,f2,f3,by omega,kk,⟨.inr (by omega),.inr (by omega),.inr ht,.inr (by omega)⟩,(by omega),(by have g0:=hk 0 (by omega);omega)⟩
  · rintro ⟨f1,f2,f3,hq,kk,⟨b1,b2,b3,b4⟩,c1,c2⟩
    replace b1:=b1.resolve_left (by decide)
    replace b2:=b2.resolve_left (by decide)
    replace b4:=b4.resolve_left (by decide)
    refine ⟨⟨⟨f1,f2,f3⟩,⟨by omega,by omega⟩,⟨by omega,by omega⟩,⟨by omega,by omega⟩,b3.resolve_left (by decide),⟨by omega,by omega⟩,fun j hj=>by omega⟩,fun j hj=>⟨(kk j hj).1,(kk j hj).2,?_⟩⟩
    skip
    all_goals
     skip
     have e0:j=0∨j=1∨j=2∨j=3:=by omega
     rcases e0 with rfl | rfl | rfl | rfl <;> omega
theorem eqv_7 {nm fl:ByteArray→Prop} {F:Nat→Gv} {a:Fv} {p:Nat} {A:Nat→ByteArray} {q:Nat} {K:Nat→Int} {i:Int} (h:a.k=7) (hm : -9223372036854775808≤a.m∧a.m≤9223372036854775807):Ipk nm fl F a p A q K i↔Npk nm fl F a p A q K i:=by
  unfold Ipk Npk alw
  rw [shk_7 h,h]
  have hr:rwk 7 q=⟨2,3,0,0,0,0,0,0,0⟩:=rfl
  have hs:∀ j,sdk 7 a.m q j=if j=0 then 3 else if j=1 then 1 else 2:=fun _=>rfl
  rw [hr,show txo nm fl _ a.x = _ from txo_0]
  simp only [hs]
  unfold br ex tk tx
  clear hr hs h
  constructor
  · rintro ⟨⟨⟨f1,f2,f3⟩,⟨k1,k2⟩,⟨o1,o2⟩,⟨m1,m2⟩,ht,⟨n1,n2⟩,hn⟩,hk⟩
    have kk:∀ j,j < q→0≤K j∧K j < i:=fun j hj=>⟨(hk j hj).1,(hk j hj).2.1⟩
    exact ⟨f1,f2,f3,by omega,kk,⟨.inr (by omega),.inr (by omega),.inr ht,.inr (by omega)⟩,(by omega),(fun j h1 h2=>by have:=hk j (by omega);omega),(by have g0:=hk 1 (by omega);omega),(by rcases Nat.lt_or_ge 2 q with z | z;(have g:=hk 2 z;omega);omega)⟩
  · rintro ⟨f1,f2,f3,hq,kk,⟨b1,b2,b3,b4⟩,c1,c2,c3,c4⟩
    replace b1:=b1.resolve_left (by decide)
    replace b2:=b2.resolve_left (by decide)
    replace b4:=b4.resolve_left (by decide)
    refine ⟨⟨⟨f1,f2,f3⟩,⟨by omega,by omega⟩,⟨by omega,by omega⟩,⟨by omega,by omega⟩,b3.resolve_left (by decide),⟨by omega,by omega⟩,fun j hj=>by omega⟩,fun j hj=>⟨(kk j hj).1,(kk j hj).2,?_⟩⟩
    skip
    all_goals
     skip
     have g2:=c2 j;have e0:j=0∨j=1∨j=2∨j=3:=by omega
     rcases e0 with rfl | rfl | rfl | rfl <;> omega
theorem eqv_8 {nm fl:ByteArray→Prop} {F:Nat→Gv} {a:Fv} {p:Nat} {A:Nat→ByteArray} {q:Nat} {K:Nat→Int} {i:Int} (h:a.k=8) (hm : -9223372036854775808≤a.m∧a.m≤9223372036854775807):Ipk nm fl F a p A q K i↔Npk nm fl F a p A q K i:=by
  unfold Ipk Npk alw
  rw [shk_8 h,h]
  have hr:rwk 8 q=⟨2,2,0,0,0,0,0,0,0⟩:=rfl
  have hs:∀ j,sdk 8 a.m q j=if j+1=q then 1 else 3:=fun _=>rfl
  rw [hr,show txo nm fl _ a.x = _ from txo_0]
  simp only [hs]
  unfold br ex tk tx
  clear hr hs h
  constructor
  · rintro ⟨⟨⟨f1,f2,f3⟩,⟨k1,k2⟩,⟨o1,o2⟩,⟨m1,m2⟩,ht,⟨n1,n2⟩,hn⟩,hk⟩
    have kk:∀ j,j < q→0≤K j∧K j < i:=fun j hj=>⟨(hk j hj).1,(hk j hj).2.1⟩
    exact ⟨f1,f2,f3,by omega,kk,⟨.inr (by omega),.inr (by omega),.inr ht,.inr (by omega)⟩,(by omega),(fun j h1 h2=>by have:=hk j (by omega);omega),(by have g0:=hk 1 (by omega);omega)⟩
  · rintro ⟨f1,f2,f3,hq,kk,⟨b1,b2,b3,b4⟩,c1,c2,c3⟩
    replace b1:=b1.resolve_left (by decide)
    replace b2:=b2.resolve_left (by decide)
    replace b4:=b4.resolve_left (by decide)
    refine ⟨⟨⟨f1,f2,f3⟩,⟨by omega,by omega⟩,⟨by omega,by omega⟩,⟨by omega,by omega⟩,b3.resolve_left (by decide),⟨by omega,by omega⟩,fun j hj=>by omega⟩,fun j hj=>⟨(kk j hj).1,(kk j hj).2,?_⟩⟩
    skip
    all_goals
     skip
     have g2:=c2 j;have e0:j=0∨j=1∨j=2∨j=3:=by omega
     rcases e0 with rfl | rfl | rfl | rfl <;> omega
theorem eqv_9 {nm fl:ByteArray→Prop} {F:Nat→Gv} {a:Fv} {p:Nat} {A:Nat→ByteArray} {q:Nat} {K:Nat→Int} {i:Int} (h:a.k=9) (hm : -9223372036854775808≤a.m∧a.m≤9223372036854775807):Ipk nm fl F a p A q K i↔Npk nm fl F a p A q K i:=by
  unfold Ipk Npk alw
  rw [shk_9 h,h]
  have hr:rwk 9 q=⟨3,4,1,1,0,0,0,0,0⟩:=rfl
  have hs:∀ j,sdk 9 a.m q j=if j+1=q then 1 else 3:=fun _=>rfl
  rw [hr,show txo nm fl _ a.x = _ from txo_0]
  simp only [hs]
  unfold br nd ex tk tx
  clear hr hs h
  constructor
  · rintro ⟨⟨⟨f1,f2,f3⟩,⟨k1,k2⟩,⟨o1,o2⟩,⟨m1,m2⟩,ht,⟨n1,n2⟩,hn⟩,hk⟩
    have kk:∀ j,j < q→0≤K j∧K j < i:=fun j hj=>⟨(hk j hj).1,(hk j hj).2.1⟩
    exact ⟨f1,f2,f3,by omega,kk,⟨.inr (by omega),.inr (by omega),.inr ht,.inl rfl⟩,⟨by omega,by omega,hn⟩,(by omega),(fun j h1 h2=>by have:=hk j (by omega);omega),(by have g0:=hk (q - 1) (by omega);omega)⟩
  · rintro ⟨f1,f2,f3,hq,kk,⟨b1,b2,b3,b4⟩,⟨d1,d2,hd⟩,c1,c2,c3⟩
    replace b1:=b1.resolve_left (by decide)
    replace b2:=b2.resolve_left (by decide)
    refine ⟨⟨⟨f1,f2,f3⟩,⟨by omega,by omega⟩,⟨by omega,by omega⟩,⟨by omega,by omega⟩,b3.resolve_left (by decide),⟨by omega,by omega⟩,hd⟩,fun j hj=>⟨(kk j hj).1,(kk j hj).2,?_⟩⟩
    rcases c1 with rfl | rfl
    all_goals
     first | (have c4:kdk F K 2=1:=c3) | (have c4:kdk F K 3=1:=c3)
     have g2:=c2 j;have e0:j=0∨j=1∨j=2∨j=3:=by omega
     rcases e0 with rfl | rfl | rfl | rfl <;> omega
theorem eqv_10 {nm fl:ByteArray→Prop} {F:Nat→Gv} {a:Fv} {p:Nat} {A:Nat→ByteArray} {q:Nat} {K:Nat→Int} {i:Int} (h:a.k=10) (hm : -9223372036854775808≤a.m∧a.m≤9223372036854775807):Ipk nm fl F a p A q K i↔Npk nm fl F a p A q K i:=by
  unfold Ipk Npk alw
  rw [shk_10 h,h]
  have hr:rwk 10 q=⟨2,2,1,200,0,0,0,0,0⟩:=rfl
  have hs:∀ j,sdk 10 a.m q j=if j+1=q then 1 else 3:=fun _=>rfl
  rw [hr,show txo nm fl _ a.x = _ from txo_0]
  simp only [hs]
  unfold br nd ex tk tx
  clear hr hs h
  constructor
  · rintro ⟨⟨⟨f1,f2,f3⟩,⟨k1,k2⟩,⟨o1,o2⟩,⟨m1,m2⟩,ht,⟨n1,n2⟩,hn⟩,hk⟩
    have kk:∀ j,j < q→0≤K j∧K j < i:=fun j hj=>⟨(hk j hj).1,(hk j hj).2.1⟩
    exact ⟨f1,f2,f3,by omega,kk,⟨.inr (by omega),.inr (by omega),.inr ht,.inl rfl⟩,⟨by omega,by omega,hn⟩,(by omega),(fun j h1 h2=>by have:=hk j (by omega);omega),(by have g0:=hk 1 (by omega);omega)⟩
  · rintro ⟨f1,f2,f3,hq,kk,⟨b1,b2,b3,b4⟩,⟨d1,d2,hd⟩,c1,c2,c3⟩
    replace b1:=b1.resolve_left (by decide)
    replace b2:=b2.resolve_left (by decide)
    refine ⟨⟨⟨f1,f2,f3⟩,⟨by omega,by omega⟩,⟨by omega,by omega⟩,⟨by omega,by omega⟩,b3.resolve_left (by decide),⟨by omega,by omega⟩,hd⟩,fun j hj=>⟨(kk j hj).1,(kk j hj).2,?_⟩⟩
    skip
    all_goals
     skip
     have g2:=c2 j;have e0:j=0∨j=1∨j=2∨j=3:=by omega
     rcases e0 with rfl | rfl | rfl | rfl <;> omega
theorem eqv_11 {nm fl:ByteArray→Prop} {F:Nat→Gv} {a:Fv} {p:Nat} {A:Nat→ByteArray} {q:Nat} {K:Nat→Int} {i:Int} (h:a.k=11) (hm : -9223372036854775808≤a.m∧a.m≤9223372036854775807):Ipk nm fl F a p A q K i↔Npk nm fl F a p A q K i:=by
  unfold Ipk Npk alw
  rw [shk_11 h,h]
  have hr:rwk 11 q=⟨0,0,0,0,0,0,0,0,0⟩:=rfl
  have hs:∀ j,sdk 11 a.m q j=3:=fun _=>rfl
  rw [hr,show txo nm fl _ a.x = _ from txo_0]
  simp only [hs]
  unfold br tk tx
  clear hr hs h
  constructor
  · rintro ⟨⟨⟨f1,f2,f3⟩,⟨k1,k2⟩,⟨o1,o2⟩,⟨m1,m2⟩,ht,⟨n1,n2⟩,hn⟩,hk⟩
    have kk:∀ j,j < q→0≤K j∧K j < i:=fun j hj=>⟨(hk j hj).1,(hk j hj).2.1⟩
    exact ⟨f1,f2,f3,by omega,kk,⟨.inr (by omega),.inr (by omega),.inr ht,.inr (by omega)⟩,(by omega)⟩
  · rintro ⟨f1,f2,f3,hq,kk,⟨b1,b2,b3,b4⟩,c1⟩
    replace b1:=b1.resolve_left (by decide)
    replace b2:=b2.resolve_left (by decide)
    replace b4:=b4.resolve_left (by decide)
    refine ⟨⟨⟨f1,f2,f3⟩,⟨by omega,by omega⟩,⟨by omega,by omega⟩,⟨by omega,by omega⟩,b3.resolve_left (by decide),⟨by omega,by omega⟩,fun j hj=>by omega⟩,fun j hj=>⟨(kk j hj).1,(kk j hj).2,?_⟩⟩
    skip
    all_goals
     skip
     skip
     omega
theorem eqv_12 {nm fl:ByteArray→Prop} {F:Nat→Gv} {a:Fv} {p:Nat} {A:Nat→ByteArray} {q:Nat} {K:Nat→Int} {i:Int} (h:a.k=12) (hm : -9223372036854775808≤a.m∧a.m≤9223372036854775807):Ipk nm fl F a p A q K i↔Npk nm fl F a p A q K i:=by
  unfold Ipk Npk alw
  rw [shk_12 h,h]
  have hr:rwk 12 q=⟨0,0,0,0,0,0,0,0,0⟩:=rfl
  have hs:∀ j,sdk 12 a.m q j=3:=fun _=>rfl
  rw [hr,show txo nm fl _ a.x = _ from txo_0]
  simp only [hs]
  unfold br tk tx
  clear hr hs h
  constructor
  · rintro ⟨⟨⟨f1,f2,f3⟩,⟨k1,k2⟩,⟨o1,o2⟩,⟨m1,m2⟩,ht,⟨n1,n2⟩,hn⟩,hk⟩
    have kk:∀ j,j < q→0≤K j∧K j < i:=fun j hj=>⟨(hk j hj).1,(hk j hj).2.1⟩
    exact ⟨f1,f2,f3,by omega,kk,⟨.inr (by omega),.inr (by omega),.inr ht,.inr (by omega)⟩,(by omega)⟩
  · rintro ⟨f1,f2,f3,hq,kk,⟨b1,b2,b3,b4⟩,c1⟩
    replace b1:=b1.resolve_left (by decide)
    replace b2:=b2.resolve_left (by decide)
    replace b4:=b4.resolve_left (by decide)
    refine ⟨⟨⟨f1,f2,f3⟩,⟨by omega,by omega⟩,⟨by omega,by omega⟩,⟨by omega,by omega⟩,b3.resolve_left (by decide),⟨by omega,by omega⟩,fun j hj=>by omega⟩,fun j hj=>⟨(kk j hj).1,(kk j hj).2,?_⟩⟩
    skip
    all_goals
     skip
     skip
     omega
theorem eqv_13 {nm fl:ByteArray→Prop} {F:Nat→Gv} {a:Fv} {p:Nat} {A:Nat→ByteArray} {q:Nat} {K:Nat→Int} {i:Int} (h:a.k=13) (hm : -9223372036854775808≤a.m∧a.m≤9223372036854775807):Ipk nm fl F a p A q K i↔Npk nm fl F a p A q K i:=by
  unfold Ipk Npk alw
  rw [shk_13 h,h]
  have hr:rwk 13 q=⟨0,200,0,0,0,0,0,0,0⟩:=rfl
  have hs:∀ j,sdk 13 a.m q j=3:=fun _=>rfl
  rw [hr,show txo nm fl _ a.x = _ from txo_0]
  simp only [hs]
  unfold br ex tk tx
  clear hr hs h
  constructor
  · rintro ⟨⟨⟨f1,f2,f3⟩,⟨k1,k2⟩,⟨o1,o2⟩,⟨m1,m2⟩,ht,⟨n1,n2⟩,hn⟩,hk⟩
    have kk:∀ j,j < q→0≤K j∧K j < i:=fun j hj=>⟨(hk j hj).1,(hk j hj).2.1⟩
    exact ⟨f1,f2,f3,by omega,kk,⟨.inr (by omega),.inr (by omega),.inr ht,.inr (by omega)⟩,(fun j h1 h2=>by have:=hk j (by omega);omega)⟩
  · rintro ⟨f1,f2,f3,hq,kk,⟨b1,b2,b3,b4⟩,c1⟩
    replace b1:=b1.resolve_left (by decide)
    replace b2:=b2.resolve_left (by decide)
    replace b4:=b4.resolve_left (by decide)
    refine ⟨⟨⟨f1,f2,f3⟩,⟨by omega,by omega⟩,⟨by omega,by omega⟩,⟨by omega,by omega⟩,b3.resolve_left (by decide),⟨by omega,by omega⟩,fun j hj=>by omega⟩,fun j hj=>⟨(kk j hj).1,(kk j hj).2,?_⟩⟩
    skip
    all_goals
     skip
     have g1:=c1 j;skip
     omega
theorem eqv_14 {nm fl:ByteArray→Prop} {F:Nat→Gv} {a:Fv} {p:Nat} {A:Nat→ByteArray} {q:Nat} {K:Nat→Int} {i:Int} (h:a.k=14) (hm : -9223372036854775808≤a.m∧a.m≤9223372036854775807):Ipk nm fl F a p A q K i↔Npk nm fl F a p A q K i:=by
  unfold Ipk Npk alw
  rw [shk_14 h,h]
  have hr:rwk 14 q=⟨2,2,1,2,0,0,0,0,0⟩:=rfl
  have hs:∀ j,sdk 14 a.m q j=1:=fun _=>rfl
  rw [hr,show txo nm fl _ a.x = _ from txo_0]
  simp only [hs]
  unfold br nd tk tx
  clear hr hs h
  constructor
  · rintro ⟨⟨⟨f1,f2,f3⟩,⟨k1,k2⟩,⟨o1,o2⟩,⟨m1,m2⟩,ht,⟨n1,n2⟩,hn⟩,hk⟩
    have kk:∀ j,j < q→0≤K j∧K j < i:=fun j hj=>⟨(hk j hj).1,(hk j hj).2.1⟩
    exact ⟨f1,f2,f3,by omega,kk,⟨.inr (by omega),.inr (by omega),.inr ht,.inl rfl⟩,⟨by omega,by omega,hn⟩,(by omega),(by have g0:=hk 0 (by omega);omega),(by have g0:=hk 1 (by omega);omega)⟩
  · rintro ⟨f1,f2,f3,hq,kk,⟨b1,b2,b3,b4⟩,⟨d1,d2,hd⟩,c1,c2,c3⟩
    replace b1:=b1.resolve_left (by decide)
    replace b2:=b2.resolve_left (by decide)
    refine ⟨⟨⟨f1,f2,f3⟩,⟨by omega,by omega⟩,⟨by omega,by omega⟩,⟨by omega,by omega⟩,b3.resolve_left (by decide),⟨by omega,by omega⟩,hd⟩,fun j hj=>⟨(kk j hj).1,(kk j hj).2,?_⟩⟩
    skip
    all_goals
     skip
     have e0:j=0∨j=1∨j=2∨j=3:=by omega
     rcases e0 with rfl | rfl | rfl | rfl <;> omega
theorem eqv_15 {nm fl:ByteArray→Prop} {F:Nat→Gv} {a:Fv} {p:Nat} {A:Nat→ByteArray} {q:Nat} {K:Nat→Int} {i:Int} (h:a.k=15) (hm : -9223372036854775808≤a.m∧a.m≤9223372036854775807):Ipk nm fl F a p A q K i↔Npk nm fl F a p A q K i:=by
  unfold Ipk Npk alw
  rw [shk_15 h,h]
  have hr:rwk 15 q=⟨1,1,0,0,0,0,0,0,0⟩:=rfl
  have hs:∀ j,sdk 15 a.m q j=3:=fun _=>rfl
  rw [hr,show txo nm fl _ a.x = _ from txo_0]
  simp only [hs]
  unfold br ex tk tx
  clear hr hs h
  constructor
  · rintro ⟨⟨⟨f1,f2,f3⟩,⟨k1,k2⟩,⟨o1,o2⟩,⟨m1,m2⟩,ht,⟨n1,n2⟩,hn⟩,hk⟩
    have kk:∀ j,j < q→0≤K j∧K j < i:=fun j hj=>⟨(hk j hj).1,(hk j hj).2.1⟩
    exact ⟨f1,f2,f3,by omega,kk,⟨.inr (by omega),.inr (by omega),.inr ht,.inr (by omega)⟩,(by omega),(fun j h1 h2=>by have:=hk j (by omega);omega)⟩
  · rintro ⟨f1,f2,f3,hq,kk,⟨b1,b2,b3,b4⟩,c1,c2⟩
    replace b1:=b1.resolve_left (by decide)
    replace b2:=b2.resolve_left (by decide)
    replace b4:=b4.resolve_left (by decide)
    refine ⟨⟨⟨f1,f2,f3⟩,⟨by omega,by omega⟩,⟨by omega,by omega⟩,⟨by omega,by omega⟩,b3.resolve_left (by decide),⟨by omega,by omega⟩,fun j hj=>by omega⟩,fun j hj=>⟨(kk j hj).1,(kk j hj).2,?_⟩⟩
    skip
    all_goals
     skip
     have g2:=c2 j;have e0:j=0∨j=1∨j=2∨j=3:=by omega
     rcases e0 with rfl | rfl | rfl | rfl <;> omega
theorem eqv_16 {nm fl:ByteArray→Prop} {F:Nat→Gv} {a:Fv} {p:Nat} {A:Nat→ByteArray} {q:Nat} {K:Nat→Int} {i:Int} (h:a.k=16) (hm : -9223372036854775808≤a.m∧a.m≤9223372036854775807):Ipk nm fl F a p A q K i↔Npk nm fl F a p A q K i:=by
  unfold Ipk Npk alw
  rw [shk_16 h,h]
  have hr:rwk 16 q=⟨1,1,0,0,0,0,0,0,0⟩:=rfl
  have hs:∀ j,sdk 16 a.m q j=6:=fun _=>rfl
  rw [hr,show txo nm fl _ a.x = _ from txo_0]
  simp only [hs]
  unfold br tk tx
  clear hr hs h
  constructor
  · rintro ⟨⟨⟨f1,f2,f3⟩,⟨k1,k2⟩,⟨o1,o2⟩,⟨m1,m2⟩,ht,⟨n1,n2⟩,hn⟩,hk⟩
    have kk:∀ j,j < q→0≤K j∧K j < i:=fun j hj=>⟨(hk j hj).1,(hk j hj).2.1⟩
    exact ⟨f1,f2,f3,by omega,kk,⟨.inr (by omega),.inr (by omega),.inr ht,.inr (by omega)⟩,(by omega),(by have g0:=hk 0 (by omega);omega)⟩
  · rintro ⟨f1,f2,f3,hq,kk,⟨b1,b2,b3,b4⟩,c1,c2⟩
    replace b1:=b1.resolve_left (by decide)
    replace b2:=b2.resolve_left (by decide)
    replace b4:=b4.resolve_left (by decide)
    refine ⟨⟨⟨f1,f2,f3⟩,⟨by omega,by omega⟩,⟨by omega,by omega⟩,⟨by omega,by omega⟩,b3.resolve_left (by decide),⟨by omega,by omega⟩,fun j hj=>by omega⟩,fun j hj=>⟨(kk j hj).1,(kk j hj).2,?_⟩⟩
    skip
    all_goals
     skip
     have e0:j=0∨j=1∨j=2∨j=3:=by omega
     rcases e0 with rfl | rfl | rfl | rfl <;> omega
theorem eqv_20 {nm fl:ByteArray→Prop} {F:Nat→Gv} {a:Fv} {p:Nat} {A:Nat→ByteArray} {q:Nat} {K:Nat→Int} {i:Int} (h:a.k=20) (hm : -9223372036854775808≤a.m∧a.m≤9223372036854775807):Ipk nm fl F a p A q K i↔Npk nm fl F a p A q K i:=by
  unfold Ipk Npk alw
  rw [shk_20 h,h]
  have hr:rwk 20 q=⟨0,0,0,0,0,0,0,0,0⟩:=rfl
  have hs:∀ j,sdk 20 a.m q j=3:=fun _=>rfl
  rw [hr,show txo nm fl _ a.x = _ from txo_0]
  simp only [hs]
  unfold br tk tx
  clear hr hs h
  constructor
  · rintro ⟨⟨⟨f1,f2,f3⟩,⟨k1,k2⟩,⟨o1,o2⟩,⟨m1,m2⟩,ht,⟨n1,n2⟩,hn⟩,hk⟩
    have kk:∀ j,j < q→0≤K j∧K j < i:=fun j hj=>⟨(hk j hj).1,(hk j hj).2.1⟩
    exact ⟨f1,f2,f3,by omega,kk,(by omega),⟨.inr (by omega),.inr (by omega),.inr ht,.inr (by omega)⟩⟩
  · rintro ⟨f1,f2,f3,hq,kk,c1,⟨b1,b2,b3,b4⟩⟩
    replace b1:=b1.resolve_left (by decide)
    replace b2:=b2.resolve_left (by decide)
    replace b4:=b4.resolve_left (by decide)
    refine ⟨⟨⟨f1,f2,f3⟩,⟨by omega,by omega⟩,⟨by omega,by omega⟩,⟨by omega,by omega⟩,b3.resolve_left (by decide),⟨by omega,by omega⟩,fun j hj=>by omega⟩,fun j hj=>⟨(kk j hj).1,(kk j hj).2,?_⟩⟩
    skip
    all_goals
     skip
     skip
     omega
theorem eqv_21 {nm fl:ByteArray→Prop} {F:Nat→Gv} {a:Fv} {p:Nat} {A:Nat→ByteArray} {q:Nat} {K:Nat→Int} {i:Int} (h:a.k=21) (hm : -9223372036854775808≤a.m∧a.m≤9223372036854775807):Ipk nm fl F a p A q K i↔Npk nm fl F a p A q K i:=by
  unfold Ipk Npk alw
  rw [shk_21 h,h]
  have hr:rwk 21 q=⟨0,0,0,0,0,0,0,0,0⟩:=rfl
  have hs:∀ j,sdk 21 a.m q j=3:=fun _=>rfl
  rw [hr,show txo nm fl _ a.x = _ from txo_0]
  simp only [hs]
  unfold br tk tx
  clear hr hs h
  constructor
  · rintro ⟨⟨⟨f1,f2,f3⟩,⟨k1,k2⟩,⟨o1,o2⟩,⟨m1,m2⟩,ht,⟨n1,n2⟩,hn⟩,hk⟩
    have kk:∀ j,j < q→0≤K j∧K j < i:=fun j hj=>⟨(hk j hj).1,(hk j hj).2.1⟩
    exact ⟨f1,f2,f3,by omega,kk,(by omega),⟨.inr (by omega),.inr (by omega),.inr ht,.inr (by omega)⟩⟩
  · rintro ⟨f1,f2,f3,hq,kk,c1,⟨b1,b2,b3,b4⟩⟩
    replace b1:=b1.resolve_left (by decide)
    replace b2:=b2.resolve_left (by decide)
    replace b4:=b4.resolve_left (by decide)
    refine ⟨⟨⟨f1,f2,f3⟩,⟨by omega,by omega⟩,⟨by omega,by omega⟩,⟨by omega,by omega⟩,b3.resolve_left (by decide),⟨by omega,by omega⟩,fun j hj=>by omega⟩,fun j hj=>⟨(kk j hj).1,(kk j hj).2,?_⟩⟩
    skip
    all_goals
     skip
     skip
     omega
theorem eqv_22 {nm fl:ByteArray→Prop} {F:Nat→Gv} {a:Fv} {p:Nat} {A:Nat→ByteArray} {q:Nat} {K:Nat→Int} {i:Int} (h:a.k=22) (hm : -9223372036854775808≤a.m∧a.m≤9223372036854775807):Ipk nm fl F a p A q K i↔Npk nm fl F a p A q K i:=by
  unfold Ipk Npk alw
  rw [shk_22 h,h]
  have hr:rwk 22 q=⟨0,0,0,0,0,0,0,0,0⟩:=rfl
  have hs:∀ j,sdk 22 a.m q j=3:=fun _=>rfl
  rw [hr,show txo nm fl _ a.x = _ from txo_0]
  simp only [hs]
  unfold br tk tx
  clear hr hs h
  constructor
  · rintro ⟨⟨⟨f1,f2,f3⟩,⟨k1,k2⟩,⟨o1,o2⟩,⟨m1,m2⟩,ht,⟨n1,n2⟩,hn⟩,hk⟩
    have kk:∀ j,j < q→0≤K j∧K j < i:=fun j hj=>⟨(hk j hj).1,(hk j hj).2.1⟩
    exact ⟨f1,f2,f3,by omega,kk,(by omega),⟨.inr (by omega),.inr (by omega),.inr ht,.inr (by omega)⟩⟩
  · rintro ⟨f1,f2,f3,hq,kk,c1,⟨b1,b2,b3,b4⟩⟩
    replace b1:=b1.resolve_left (by decide)
    replace b2:=b2.resolve_left (by decide)
    replace b4:=b4.resolve_left (by decide)
    refine ⟨⟨⟨f1,f2,f3⟩,⟨by omega,by omega⟩,⟨by omega,by omega⟩,⟨by omega,by omega⟩,b3.resolve_left (by decide),⟨by omega,by omega⟩,fun j hj=>by omega⟩,fun j hj=>⟨(kk j hj).1,(kk j hj).2,?_⟩⟩
    skip
    all_goals
     skip
     skip
     omega
theorem eqv_23 {nm fl:ByteArray→Prop} {F:Nat→Gv} {a:Fv} {p:Nat} {A:Nat→ByteArray} {q:Nat} {K:Nat→Int} {i:Int} (h:a.k=23) (hm : -9223372036854775808≤a.m∧a.m≤9223372036854775807):Ipk nm fl F a p A q K i↔Npk nm fl F a p A q K i:=by
  unfold Ipk Npk alw
  rw [shk_23 h,h]
  have hr:rwk 23 q=⟨0,0,0,0,0,0,-9223372036854775808,9223372036854775807,0⟩:=rfl
  have hs:∀ j,sdk 23 a.m q j=3:=fun _=>rfl
  rw [hr,show txo nm fl _ a.x = _ from txo_0]
  simp only [hs]
  unfold br tk tx
  clear hr hs h
  constructor
  · rintro ⟨⟨⟨f1,f2,f3⟩,⟨k1,k2⟩,⟨o1,o2⟩,⟨m1,m2⟩,ht,⟨n1,n2⟩,hn⟩,hk⟩
    have kk:∀ j,j < q→0≤K j∧K j < i:=fun j hj=>⟨(hk j hj).1,(hk j hj).2.1⟩
    exact ⟨f1,f2,f3,by omega,kk,(by omega),⟨.inr (by omega),.inl rfl,.inr ht,.inr (by omega)⟩⟩
  · rintro ⟨f1,f2,f3,hq,kk,c1,⟨b1,b2,b3,b4⟩⟩
    replace b1:=b1.resolve_left (by decide)
    replace b4:=b4.resolve_left (by decide)
    refine ⟨⟨⟨f1,f2,f3⟩,⟨by omega,by omega⟩,⟨by omega,by omega⟩,⟨hm.1,hm.2⟩,b3.resolve_left (by decide),⟨by omega,by omega⟩,fun j hj=>by omega⟩,fun j hj=>⟨(kk j hj).1,(kk j hj).2,?_⟩⟩
    skip
    all_goals
     skip
     skip
     omega
theorem eqv_24 {nm fl:ByteArray→Prop} {F:Nat→Gv} {a:Fv} {p:Nat} {A:Nat→ByteArray} {q:Nat} {K:Nat→Int} {i:Int} (h:a.k=24) (hm : -9223372036854775808≤a.m∧a.m≤9223372036854775807):Ipk nm fl F a p A q K i↔Npk nm fl F a p A q K i:=by
  unfold Ipk Npk alw
  rw [shk_24 h,h]
  have hr:rwk 24 q=⟨0,0,0,0,0,0,0,0,3⟩:=rfl
  have hs:∀ j,sdk 24 a.m q j=3:=fun _=>rfl
  rw [hr,show txo nm fl _ a.x = _ from txo_3]
  simp only [hs]
  unfold br tk tx
  clear hr hs h
  constructor
  · rintro ⟨⟨⟨f1,f2,f3⟩,⟨k1,k2⟩,⟨o1,o2⟩,⟨m1,m2⟩,ht,⟨n1,n2⟩,hn⟩,hk⟩
    have kk:∀ j,j < q→0≤K j∧K j < i:=fun j hj=>⟨(hk j hj).1,(hk j hj).2.1⟩
    exact ⟨f1,f2,f3,by omega,kk,(by omega),⟨.inr (by omega),.inr (by omega),.inl rfl,.inr (by omega)⟩,ht⟩
  · rintro ⟨f1,f2,f3,hq,kk,c1,⟨b1,b2,b3,b4⟩,ht⟩
    replace b1:=b1.resolve_left (by decide)
    replace b2:=b2.resolve_left (by decide)
    replace b4:=b4.resolve_left (by decide)
    refine ⟨⟨⟨f1,f2,f3⟩,⟨by omega,by omega⟩,⟨by omega,by omega⟩,⟨by omega,by omega⟩,ht,⟨by omega,by omega⟩,fun j hj=>by omega⟩,fun j hj=>⟨(kk j hj).1,(kk j hj).2,?_⟩⟩
    skip
    all_goals
     skip
     skip
     omega
theorem eqv_25 {nm fl:ByteArray→Prop} {F:Nat→Gv} {a:Fv} {p:Nat} {A:Nat→ByteArray} {q:Nat} {K:Nat→Int} {i:Int} (h:a.k=25) (hm : -9223372036854775808≤a.m∧a.m≤9223372036854775807):Ipk nm fl F a p A q K i↔Npk nm fl F a p A q K i:=by
  unfold Ipk Npk alw
  rw [shk_25 h,h]
  have hr:rwk 25 q=⟨0,0,0,0,0,0,0,0,4⟩:=rfl
  have hs:∀ j,sdk 25 a.m q j=3:=fun _=>rfl
  rw [hr,show txo nm fl _ a.x = _ from txo_4]
  simp only [hs]
  unfold br tk tx
  clear hr hs h
  constructor
  · rintro ⟨⟨⟨f1,f2,f3⟩,⟨k1,k2⟩,⟨o1,o2⟩,⟨m1,m2⟩,ht,⟨n1,n2⟩,hn⟩,hk⟩
    have kk:∀ j,j < q→0≤K j∧K j < i:=fun j hj=>⟨(hk j hj).1,(hk j hj).2.1⟩
    exact ⟨f1,f2,f3,by omega,kk,(by omega),⟨.inr (by omega),.inr (by omega),.inl rfl,.inr (by omega)⟩,ht⟩
  · rintro ⟨f1,f2,f3,hq,kk,c1,⟨b1,b2,b3,b4⟩,ht⟩
    replace b1:=b1.resolve_left (by decide)
    replace b2:=b2.resolve_left (by decide)
    replace b4:=b4.resolve_left (by decide)
    refine ⟨⟨⟨f1,f2,f3⟩,⟨by omega,by omega⟩,⟨by omega,by omega⟩,⟨by omega,by omega⟩,ht,⟨by omega,by omega⟩,fun j hj=>by omega⟩,fun j hj=>⟨(kk j hj).1,(kk j hj).2,?_⟩⟩
    skip
    all_goals
     skip
     skip
     omega
theorem eqv_26 {nm fl:ByteArray→Prop} {F:Nat→Gv} {a:Fv} {p:Nat} {A:Nat→ByteArray} {q:Nat} {K:Nat→Int} {i:Int} (h:a.k=26) (hm : -9223372036854775808≤a.m∧a.m≤9223372036854775807):Ipk nm fl F a p A q K i↔Npk nm fl F a p A q K i:=by
  unfold Ipk Npk alw
  rw [shk_26 h,h]
  have hr:rwk 26 q=⟨0,0,0,0,0,0,0,0,1⟩:=rfl
  have hs:∀ j,sdk 26 a.m q j=3:=fun _=>rfl
  rw [hr,show txo nm fl _ a.x = _ from txo_1]
  simp only [hs]
  unfold br tk tx
  clear hr hs h
  constructor
  · rintro ⟨⟨⟨f1,f2,f3⟩,⟨k1,k2⟩,⟨o1,o2⟩,⟨m1,m2⟩,ht,⟨n1,n2⟩,hn⟩,hk⟩
    have kk:∀ j,j < q→0≤K j∧K j < i:=fun j hj=>⟨(hk j hj).1,(hk j hj).2.1⟩
    exact ⟨f1,f2,f3,by omega,kk,(by omega),⟨.inr (by omega),.inr (by omega),.inl rfl,.inr (by omega)⟩,ht⟩
  · rintro ⟨f1,f2,f3,hq,kk,c1,⟨b1,b2,b3,b4⟩,ht⟩
    replace b1:=b1.resolve_left (by decide)
    replace b2:=b2.resolve_left (by decide)
    replace b4:=b4.resolve_left (by decide)
    refine ⟨⟨⟨f1,f2,f3⟩,⟨by omega,by omega⟩,⟨by omega,by omega⟩,⟨by omega,by omega⟩,ht,⟨by omega,by omega⟩,fun j hj=>by omega⟩,fun j hj=>⟨(kk j hj).1,(kk j hj).2,?_⟩⟩
    skip
    all_goals
     skip
     skip
     omega
theorem eqv_27 {nm fl:ByteArray→Prop} {F:Nat→Gv} {a:Fv} {p:Nat} {A:Nat→ByteArray} {q:Nat} {K:Nat→Int} {i:Int} (h:a.k=27) (hm : -9223372036854775808≤a.m∧a.m≤9223372036854775807):Ipk nm fl F a p A q K i↔Npk nm fl F a p A q K i:=by
  unfold Ipk Npk alw
  rw [shk_27 h,h]
  have hr:rwk 27 q=⟨0,0,0,0,0,0,0,0,0⟩:=rfl
  have hs:∀ j,sdk 27 a.m q j=3:=fun _=>rfl
  rw [hr,show txo nm fl _ a.x = _ from txo_0]
  simp only [hs]
  unfold br tk tx
  clear hr hs h
  constructor
  · rintro ⟨⟨⟨f1,f2,f3⟩,⟨k1,k2⟩,⟨o1,o2⟩,⟨m1,m2⟩,ht,⟨n1,n2⟩,hn⟩,hk⟩
    have kk:∀ j,j < q→0≤K j∧K j < i:=fun j hj=>⟨(hk j hj).1,(hk j hj).2.1⟩
    exact ⟨f1,f2,f3,by omega,kk,(by omega),⟨.inr (by omega),.inr (by omega),.inr ht,.inr (by omega)⟩⟩
  · rintro ⟨f1,f2,f3,hq,kk,c1,⟨b1,b2,b3,b4⟩⟩
    replace b1:=b1.resolve_left (by decide)
    replace b2:=b2.resolve_left (by decide)
    replace b4:=b4.resolve_left (by decide)
    refine ⟨⟨⟨f1,f2,f3⟩,⟨by omega,by omega⟩,⟨by omega,by omega⟩,⟨by omega,by omega⟩,b3.resolve_left (by decide),⟨by omega,by omega⟩,fun j hj=>by omega⟩,fun j hj=>⟨(kk j hj).1,(kk j hj).2,?_⟩⟩
    skip
    all_goals
     skip
     skip
     omega
theorem eqv_28 {nm fl:ByteArray→Prop} {F:Nat→Gv} {a:Fv} {p:Nat} {A:Nat→ByteArray} {q:Nat} {K:Nat→Int} {i:Int} (h:a.k=28) (hm : -9223372036854775808≤a.m∧a.m≤9223372036854775807):Ipk nm fl F a p A q K i↔Npk nm fl F a p A q K i:=by
  unfold Ipk Npk alw
  rw [shk_28 h,h]
  have hr:rwk 28 q=⟨2,2,0,0,0,0,0,0,0⟩:=rfl
  have hs:∀ j,sdk 28 a.m q j=3:=fun _=>rfl
  rw [hr,show txo nm fl _ a.x = _ from txo_0]
  simp only [hs]
  unfold br ex tk tx
  clear hr hs h
  constructor
  · rintro ⟨⟨⟨f1,f2,f3⟩,⟨k1,k2⟩,⟨o1,o2⟩,⟨m1,m2⟩,ht,⟨n1,n2⟩,hn⟩,hk⟩
    have kk:∀ j,j < q→0≤K j∧K j < i:=fun j hj=>⟨(hk j hj).1,(hk j hj).2.1⟩
    exact ⟨f1,f2,f3,by omega,kk,(by omega),(fun j h1 h2=>by have:=hk j (by omega);omega),⟨.inr (by omega),.inr (by omega),.inr ht,.inr (by omega)⟩⟩
  · rintro ⟨f1,f2,f3,hq,kk,c1,c2,⟨b1,b2,b3,b4⟩⟩
    replace b1:=b1.resolve_left (by decide)
    replace b2:=b2.resolve_left (by decide)
    replace b4:=b4.resolve_left (by decide)
    refine ⟨⟨⟨f1,f2,f3⟩,⟨by omega,by omega⟩,⟨by omega,by omega⟩,⟨by omega,by omega⟩,b3.resolve_left (by decide),⟨by omega,by omega⟩,fun j hj=>by omega⟩,fun j hj=>⟨(kk j hj).1,(kk j hj).2,?_⟩⟩
    skip
    all_goals
     skip
     have g2:=c2 j;have e0:j=0∨j=1∨j=2∨j=3:=by omega
     rcases e0 with rfl | rfl | rfl | rfl <;> omega
theorem eqv_29 {nm fl:ByteArray→Prop} {F:Nat→Gv} {a:Fv} {p:Nat} {A:Nat→ByteArray} {q:Nat} {K:Nat→Int} {i:Int} (h:a.k=29) (hm : -9223372036854775808≤a.m∧a.m≤9223372036854775807):Ipk nm fl F a p A q K i↔Npk nm fl F a p A q K i:=by
  unfold Ipk Npk alw
  rw [shk_29 h,h]
  have hr:rwk 29 q=⟨2,2,0,0,0,0,0,0,0⟩:=rfl
  have hs:∀ j,sdk 29 a.m q j=3:=fun _=>rfl
  rw [hr,show txo nm fl _ a.x = _ from txo_0]
  simp only [hs]
  unfold br ex tk tx
  clear hr hs h
  constructor
  · rintro ⟨⟨⟨f1,f2,f3⟩,⟨k1,k2⟩,⟨o1,o2⟩,⟨m1,m2⟩,ht,⟨n1,n2⟩,hn⟩,hk⟩
    have kk:∀ j,j < q→0≤K j∧K j < i:=fun j hj=>⟨(hk j hj).1,(hk j hj).2.1⟩
    exact ⟨f1,f2,f3,by omega,kk,(by omega),(fun j h1 h2=>by have:=hk j (by omega);omega),⟨.inr (by omega),.inr (by omega),.inr ht,.inr (by omega)⟩⟩
  · rintro ⟨f1,f2,f3,hq,kk,c1,c2,⟨b1,b2,b3,b4⟩⟩
    replace b1:=b1.resolve_left (by decide)
    replace b2:=b2.resolve_left (by decide)
    replace b4:=b4.resolve_left (by decide)
    refine ⟨⟨⟨f1,f2,f3⟩,⟨by omega,by omega⟩,⟨by omega,by omega⟩,⟨by omega,by omega⟩,b3.resolve_left (by decide),⟨by omega,by omega⟩,fun j hj=>by omega⟩,fun j hj=>⟨(kk j hj).1,(kk j hj).2,?_⟩⟩
    skip
    all_goals
     skip
     have g2:=c2 j;have e0:j=0∨j=1∨j=2∨j=3:=by omega
     rcases e0 with rfl | rfl | rfl | rfl <;> omega
theorem eqv_30 {nm fl:ByteArray→Prop} {F:Nat→Gv} {a:Fv} {p:Nat} {A:Nat→ByteArray} {q:Nat} {K:Nat→Int} {i:Int} (h:a.k=30) (hm : -9223372036854775808≤a.m∧a.m≤9223372036854775807):Ipk nm fl F a p A q K i↔Npk nm fl F a p A q K i:=by
  unfold Ipk Npk alw
  rw [shk_30 h,h]
  have hr:rwk 30 q=⟨1,1,0,0,19,22,0,0,0⟩:=rfl
  have hs:∀ j,sdk 30 a.m q j=3:=fun _=>rfl
  rw [hr,show txo nm fl _ a.x = _ from txo_0]
  simp only [hs]
  unfold br ex tk tx
  clear hr hs h
  constructor
  · rintro ⟨⟨⟨f1,f2,f3⟩,⟨k1,k2⟩,⟨o1,o2⟩,⟨m1,m2⟩,ht,⟨n1,n2⟩,hn⟩,hk⟩
    have kk:∀ j,j < q→0≤K j∧K j < i:=fun j hj=>⟨(hk j hj).1,(hk j hj).2.1⟩
    exact ⟨f1,f2,f3,by omega,kk,(by omega),(fun j h1 h2=>by have:=hk j (by omega);omega),⟨.inl rfl,.inr (by omega),.inr ht,.inr (by omega)⟩,(by omega),(by omega)⟩
  · rintro ⟨f1,f2,f3,hq,kk,c1,c2,⟨b1,b2,b3,b4⟩,c3,c4⟩
    replace b2:=b2.resolve_left (by decide)
    replace b4:=b4.resolve_left (by decide)
    refine ⟨⟨⟨f1,f2,f3⟩,⟨by omega,by omega⟩,⟨by omega,by omega⟩,⟨by omega,by omega⟩,b3.resolve_left (by decide),⟨by omega,by omega⟩,fun j hj=>by omega⟩,fun j hj=>⟨(kk j hj).1,(kk j hj).2,?_⟩⟩
    skip
    all_goals
     skip
     have g2:=c2 j;have e0:j=0∨j=1∨j=2∨j=3:=by omega
     rcases e0 with rfl | rfl | rfl | rfl <;> omega
theorem eqv_31 {nm fl:ByteArray→Prop} {F:Nat→Gv} {a:Fv} {p:Nat} {A:Nat→ByteArray} {q:Nat} {K:Nat→Int} {i:Int} (h:a.k=31) (hm : -9223372036854775808≤a.m∧a.m≤9223372036854775807):Ipk nm fl F a p A q K i↔Npk nm fl F a p A q K i:=by
  unfold Ipk Npk alw
  rw [shk_31 h,h]
  have hr:rwk 31 q=⟨2,2,0,0,1,18,0,0,0⟩:=rfl
  have hs:∀ j,sdk 31 a.m q j=3:=fun _=>rfl
  rw [hr,show txo nm fl _ a.x = _ from txo_0]
  simp only [hs]
  unfold br ex tk tx
  clear hr hs h
  constructor
  · rintro ⟨⟨⟨f1,f2,f3⟩,⟨k1,k2⟩,⟨o1,o2⟩,⟨m1,m2⟩,ht,⟨n1,n2⟩,hn⟩,hk⟩
    have kk:∀ j,j < q→0≤K j∧K j < i:=fun j hj=>⟨(hk j hj).1,(hk j hj).2.1⟩
    exact ⟨f1,f2,f3,by omega,kk,(by omega),(fun j h1 h2=>by have:=hk j (by omega);omega),⟨.inl rfl,.inr (by omega),.inr ht,.inr (by omega)⟩,(by omega),(by omega)⟩
  · rintro ⟨f1,f2,f3,hq,kk,c1,c2,⟨b1,b2,b3,b4⟩,c3,c4⟩
    replace b2:=b2.resolve_left (by decide)
    replace b4:=b4.resolve_left (by decide)
    refine ⟨⟨⟨f1,f2,f3⟩,⟨by omega,by omega⟩,⟨by omega,by omega⟩,⟨by omega,by omega⟩,b3.resolve_left (by decide),⟨by omega,by omega⟩,fun j hj=>by omega⟩,fun j hj=>⟨(kk j hj).1,(kk j hj).2,?_⟩⟩
    skip
    all_goals
     skip
     have g2:=c2 j;have e0:j=0∨j=1∨j=2∨j=3:=by omega
     rcases e0 with rfl | rfl | rfl | rfl <;> omega
theorem eqv_32 {nm fl:ByteArray→Prop} {F:Nat→Gv} {a:Fv} {p:Nat} {A:Nat→ByteArray} {q:Nat} {K:Nat→Int} {i:Int} (h:a.k=32) (hm : -9223372036854775808≤a.m∧a.m≤9223372036854775807):Ipk nm fl F a p A q K i↔Npk nm fl F a p A q K i:=by
  unfold Ipk Npk alw
  rw [shk_32 h,h]
  have hr:rwk 32 q=⟨2,2,0,0,0,0,0,0,0⟩:=rfl
  have hs:∀ j,sdk 32 a.m q j=if j=0 then 4 else 3:=fun _=>rfl
  rw [hr,show txo nm fl _ a.x = _ from txo_0]
  simp only [hs]
  unfold br ex tk tx
  clear hr hs h
  constructor
  · rintro ⟨⟨⟨f1,f2,f3⟩,⟨k1,k2⟩,⟨o1,o2⟩,⟨m1,m2⟩,ht,⟨n1,n2⟩,hn⟩,hk⟩
    have kk:∀ j,j < q→0≤K j∧K j < i:=fun j hj=>⟨(hk j hj).1,(hk j hj).2.1⟩
    exact ⟨f1,f2,f3,by omega,kk,(by omega),(fun j h1 h2=>by have:=hk j (by omega);omega),(by have g0:=hk 0 (by omega);omega),⟨.inr (by omega),.inr (by omega),.inr ht,.inr (by omega)⟩⟩
  · rintro ⟨f1,f2,f3,hq,kk,c1,c2,c3,⟨b1,b2,b3,b4⟩⟩
    replace b1:=b1.resolve_left (by decide)
    replace b2:=b2.resolve_left (by decide)
    replace b4:=b4.resolve_left (by decide)
    refine ⟨⟨⟨f1,f2,f3⟩,⟨by omega,by omega⟩,⟨by omega,by omega⟩,⟨by omega,by omega⟩,b3.resolve_left (by decide),⟨by omega,by omega⟩,fun j hj=>by omega⟩,fun j hj=>⟨(kk j hj).1,(kk j hj).2,?_⟩⟩
    skip
    all_goals
     skip
     have g2:=c2 j;have e0:j=0∨j=1∨j=2∨j=3:=by omega
     rcases e0 with rfl | rfl | rfl | rfl <;> omega
theorem eqv_33 {nm fl:ByteArray→Prop} {F:Nat→Gv} {a:Fv} {p:Nat} {A:Nat→ByteArray} {q:Nat} {K:Nat→Int} {i:Int} (h:a.k=33) (hm : -9223372036854775808≤a.m∧a.m≤9223372036854775807):Ipk nm fl F a p A q K i↔Npk nm fl F a p A q K i:=by
  unfold Ipk Npk alw
  rw [shk_33 h,h]
  have hr:rwk 33 q=⟨1,1,0,0,0,0,0,0,1⟩:=rfl
  have hs:∀ j,sdk 33 a.m q j=if j=0 then 4 else 3:=fun _=>rfl
  rw [hr,show txo nm fl _ a.x = _ from txo_1]
  simp only [hs]
  unfold br ex tk tx
  clear hr hs h
  constructor
  · rintro ⟨⟨⟨f1,f2,f3⟩,⟨k1,k2⟩,⟨o1,o2⟩,⟨m1,m2⟩,ht,⟨n1,n2⟩,hn⟩,hk⟩
    have kk:∀ j,j < q→0≤K j∧K j < i:=fun j hj=>⟨(hk j hj).1,(hk j hj).2.1⟩
    exact ⟨f1,f2,f3,by omega,kk,(by omega),(fun j h1 h2=>by have:=hk j (by omega);omega),(by have g0:=hk 0 (by omega);omega),⟨.inr (by omega),.inr (by omega),.inl rfl,.inr (by omega)⟩,ht⟩
  · rintro ⟨f1,f2,f3,hq,kk,c1,c2,c3,⟨b1,b2,b3,b4⟩,ht⟩
    replace b1:=b1.resolve_left (by decide)
    replace b2:=b2.resolve_left (by decide)
    replace b4:=b4.resolve_left (by decide)
    refine ⟨⟨⟨f1,f2,f3⟩,⟨by omega,by omega⟩,⟨by omega,by omega⟩,⟨by omega,by omega⟩,ht,⟨by omega,by omega⟩,fun j hj=>by omega⟩,fun j hj=>⟨(kk j hj).1,(kk j hj).2,?_⟩⟩
    skip
    all_goals
     skip
     have g2:=c2 j;have e0:j=0∨j=1∨j=2∨j=3:=by omega
     rcases e0 with rfl | rfl | rfl | rfl <;> omega
theorem eqv_34 {nm fl:ByteArray→Prop} {F:Nat→Gv} {a:Fv} {p:Nat} {A:Nat→ByteArray} {q:Nat} {K:Nat→Int} {i:Int} (h:a.k=34) (hm : -9223372036854775808≤a.m∧a.m≤9223372036854775807):Ipk nm fl F a p A q K i↔Npk nm fl F a p A q K i:=by
  unfold Ipk Npk alw
  rw [shk_34 h,h]
  have hr:rwk 34 q=⟨1,200,0,0,0,0,0,0,0⟩:=rfl
  have hs:∀ j,sdk 34 a.m q j=if j=0 then 4 else 3:=fun _=>rfl
  rw [hr,show txo nm fl _ a.x = _ from txo_0]
  simp only [hs]
  unfold br ex tk tx
  clear hr hs h
  constructor
  · rintro ⟨⟨⟨f1,f2,f3⟩,⟨k1,k2⟩,⟨o1,o2⟩,⟨m1,m2⟩,ht,⟨n1,n2⟩,hn⟩,hk⟩
    have kk:∀ j,j < q→0≤K j∧K j < i:=fun j hj=>⟨(hk j hj).1,(hk j hj).2.1⟩
    exact ⟨f1,f2,f3,by omega,kk,(by omega),(fun j h1 h2=>by have:=hk j (by omega);omega),(by have g0:=hk 0 (by omega);omega),⟨.inr (by omega),.inr (by omega),.inr ht,.inr (by omega)⟩⟩
  · rintro ⟨f1,f2,f3,hq,kk,c1,c2,c3,⟨b1,b2,b3,b4⟩⟩
    replace b1:=b1.resolve_left (by decide)
    replace b2:=b2.resolve_left (by decide)
    replace b4:=b4.resolve_left (by decide)
    refine ⟨⟨⟨f1,f2,f3⟩,⟨by omega,by omega⟩,⟨by omega,by omega⟩,⟨by omega,by omega⟩,b3.resolve_left (by decide),⟨by omega,by omega⟩,fun j hj=>by omega⟩,fun j hj=>⟨(kk j hj).1,(kk j hj).2,?_⟩⟩
    skip
    all_goals
     skip
     have g2:=c2 j;skip
     rcases Nat.eq_zero_or_pos j with rfl | hj0 <;> omega
theorem eqv_35 {nm fl:ByteArray→Prop} {F:Nat→Gv} {a:Fv} {p:Nat} {A:Nat→ByteArray} {q:Nat} {K:Nat→Int} {i:Int} (h:a.k=35) (hm : -9223372036854775808≤a.m∧a.m≤9223372036854775807):Ipk nm fl F a p A q K i↔Npk nm fl F a p A q K i:=by
  unfold Ipk Npk alw
  rw [shk_35 h,h]
  have hr:rwk 35 q=⟨0,200,0,0,0,0,0,0,0⟩:=rfl
  have hs:∀ j,sdk 35 a.m q j=9:=fun _=>rfl
  rw [hr,show txo nm fl _ a.x = _ from txo_0]
  simp only [hs]
  unfold br tk tx
  clear hr hs h
  constructor
  · rintro ⟨⟨⟨f1,f2,f3⟩,⟨k1,k2⟩,⟨o1,o2⟩,⟨m1,m2⟩,ht,⟨n1,n2⟩,hn⟩,hk⟩
    have kk:∀ j,j < q→0≤K j∧K j < i:=fun j hj=>⟨(hk j hj).1,(hk j hj).2.1⟩
    exact ⟨f1,f2,f3,by omega,kk,(fun j hj=>by have:=hk j (by omega);omega),⟨.inr (by omega),.inr (by omega),.inr ht,.inr (by omega)⟩⟩
  · rintro ⟨f1,f2,f3,hq,kk,c1,⟨b1,b2,b3,b4⟩⟩
    replace b1:=b1.resolve_left (by decide)
    replace b2:=b2.resolve_left (by decide)
    replace b4:=b4.resolve_left (by decide)
    refine ⟨⟨⟨f1,f2,f3⟩,⟨by omega,by omega⟩,⟨by omega,by omega⟩,⟨by omega,by omega⟩,b3.resolve_left (by decide),⟨by omega,by omega⟩,fun j hj=>by omega⟩,fun j hj=>⟨(kk j hj).1,(kk j hj).2,?_⟩⟩
    skip
    all_goals
     skip
     have g1:=c1 j;skip
     omega
theorem eqv_36 {nm fl:ByteArray→Prop} {F:Nat→Gv} {a:Fv} {p:Nat} {A:Nat→ByteArray} {q:Nat} {K:Nat→Int} {i:Int} (h:a.k=36) (hm : -9223372036854775808≤a.m∧a.m≤9223372036854775807):Ipk nm fl F a p A q K i↔Npk nm fl F a p A q K i:=by
  unfold Ipk Npk alw
  rw [shk_36 h,h]
  have hr:rwk 36 q=⟨1,1,0,200,0,1,0,0,0⟩:=rfl
  have hs:∀ j,sdk 36 a.m q j=1:=fun _=>rfl
  rw [hr,show txo nm fl _ a.x = _ from txo_0]
  simp only [hs]
  unfold br nd tk tx
  clear hr hs h
  constructor
  · rintro ⟨⟨⟨f1,f2,f3⟩,⟨k1,k2⟩,⟨o1,o2⟩,⟨m1,m2⟩,ht,⟨n1,n2⟩,hn⟩,hk⟩
    have kk:∀ j,j < q→0≤K j∧K j < i:=fun j hj=>⟨(hk j hj).1,(hk j hj).2.1⟩
    exact ⟨f1,f2,f3,by omega,kk,(by omega),(by have g0:=hk 0 (by omega);omega),⟨.inl rfl,.inr (by omega),.inr ht,.inl rfl⟩,⟨by omega,by omega,hn⟩,(by omega)⟩
  · rintro ⟨f1,f2,f3,hq,kk,c1,c2,⟨b1,b2,b3,b4⟩,⟨d1,d2,hd⟩,c3⟩
    replace b2:=b2.resolve_left (by decide)
    refine ⟨⟨⟨f1,f2,f3⟩,⟨by omega,by omega⟩,⟨by omega,by omega⟩,⟨by omega,by omega⟩,b3.resolve_left (by decide),⟨by omega,by omega⟩,hd⟩,fun j hj=>⟨(kk j hj).1,(kk j hj).2,?_⟩⟩
    skip
    all_goals
     skip
     have e0:j=0∨j=1∨j=2∨j=3:=by omega
     rcases e0 with rfl | rfl | rfl | rfl <;> omega
theorem eqv_37 {nm fl:ByteArray→Prop} {F:Nat→Gv} {a:Fv} {p:Nat} {A:Nat→ByteArray} {q:Nat} {K:Nat→Int} {i:Int} (h:a.k=37) (hm : -9223372036854775808≤a.m∧a.m≤9223372036854775807):Ipk nm fl F a p A q K i↔Npk nm fl F a p A q K i:=by
  unfold Ipk Npk alw
  rw [shk_37 h,h]
  have hr:rwk 37 q=⟨1,1,0,0,0,0,0,0,0⟩:=rfl
  have hs:∀ j,sdk 37 a.m q j=7:=fun _=>rfl
  rw [hr,show txo nm fl _ a.x = _ from txo_0]
  simp only [hs]
  unfold br tk tx
  clear hr hs h
  constructor
  · rintro ⟨⟨⟨f1,f2,f3⟩,⟨k1,k2⟩,⟨o1,o2⟩,⟨m1,m2⟩,ht,⟨n1,n2⟩,hn⟩,hk⟩
    have kk:∀ j,j < q→0≤K j∧K j < i:=fun j hj=>⟨(hk j hj).1,(hk j hj).2.1⟩
    exact ⟨f1,f2,f3,by omega,kk,(by omega),(by have g0:=hk 0 (by omega);omega),⟨.inr (by omega),.inr (by omega),.inr ht,.inr (by omega)⟩⟩
  · rintro ⟨f1,f2,f3,hq,kk,c1,c2,⟨b1,b2,b3,b4⟩⟩
    replace b1:=b1.resolve_left (by decide)
    replace b2:=b2.resolve_left (by decide)
    replace b4:=b4.resolve_left (by decide)
    refine ⟨⟨⟨f1,f2,f3⟩,⟨by omega,by omega⟩,⟨by omega,by omega⟩,⟨by omega,by omega⟩,b3.resolve_left (by decide),⟨by omega,by omega⟩,fun j hj=>by omega⟩,fun j hj=>⟨(kk j hj).1,(kk j hj).2,?_⟩⟩
    skip
    all_goals
     skip
     have e0:j=0∨j=1∨j=2∨j=3:=by omega
     rcases e0 with rfl | rfl | rfl | rfl <;> omega
theorem eqv_40 {nm fl:ByteArray→Prop} {F:Nat→Gv} {a:Fv} {p:Nat} {A:Nat→ByteArray} {q:Nat} {K:Nat→Int} {i:Int} (h:a.k=40) (hm : -9223372036854775808≤a.m∧a.m≤9223372036854775807):Ipk nm fl F a p A q K i↔Npk nm fl F a p A q K i:=by
  unfold Ipk Npk alw
  rw [shk_40 h,h]
  have hr:rwk 40 q=⟨1,1,0,0,0,0,0,0,0⟩:=rfl
  have hs:∀ j,sdk 40 a.m q j=3:=fun _=>rfl
  rw [hr,show txo nm fl _ a.x = _ from txo_0]
  simp only [hs]
  unfold br ex tk tx
  clear hr hs h
  constructor
  · rintro ⟨⟨⟨f1,f2,f3⟩,⟨k1,k2⟩,⟨o1,o2⟩,⟨m1,m2⟩,ht,⟨n1,n2⟩,hn⟩,hk⟩
    have kk:∀ j,j < q→0≤K j∧K j < i:=fun j hj=>⟨(hk j hj).1,(hk j hj).2.1⟩
    exact ⟨f1,f2,f3,by omega,kk,(by omega),(fun j h1 h2=>by have:=hk j (by omega);omega),⟨.inr (by omega),.inr (by omega),.inr ht,.inr (by omega)⟩⟩
  · rintro ⟨f1,f2,f3,hq,kk,c1,c2,⟨b1,b2,b3,b4⟩⟩
    replace b1:=b1.resolve_left (by decide)
    replace b2:=b2.resolve_left (by decide)
    replace b4:=b4.resolve_left (by decide)
    refine ⟨⟨⟨f1,f2,f3⟩,⟨by omega,by omega⟩,⟨by omega,by omega⟩,⟨by omega,by omega⟩,b3.resolve_left (by decide),⟨by omega,by omega⟩,fun j hj=>by omega⟩,fun j hj=>⟨(kk j hj).1,(kk j hj).2,?_⟩⟩
    skip
    all_goals
     skip
     have g2:=c2 j;have e0:j=0∨j=1∨j=2∨j=3:=by omega
     rcases e0 with rfl | rfl | rfl | rfl <;> omega
theorem eqv_41 {nm fl:ByteArray→Prop} {F:Nat→Gv} {a:Fv} {p:Nat} {A:Nat→ByteArray} {q:Nat} {K:Nat→Int} {i:Int} (h:a.k=41) (hm : -9223372036854775808≤a.m∧a.m≤9223372036854775807):Ipk nm fl F a p A q K i↔Npk nm fl F a p A q K i:=by
  unfold Ipk Npk alw
  rw [shk_41 h,h]
  have hr:rwk 41 q=⟨2,2,0,0,0,0,0,0,0⟩:=rfl
  have hs:∀ j,sdk 41 a.m q j=3:=fun _=>rfl
  rw [hr,show txo nm fl _ a.x = _ from txo_0]
  simp only [hs]
  unfold br ex tk tx
  clear hr hs h
  constructor
  · rintro ⟨⟨⟨f1,f2,f3⟩,⟨k1,k2⟩,⟨o1,o2⟩,⟨m1,m2⟩,ht,⟨n1,n2⟩,hn⟩,hk⟩
    have kk:∀ j,j < q→0≤K j∧K j < i:=fun j hj=>⟨(hk j hj).1,(hk j hj).2.1⟩
    exact ⟨f1,f2,f3,by omega,kk,(by omega),(fun j h1 h2=>by have:=hk j (by omega);omega),⟨.inr (by omega),.inr (by omega),.inr ht,.inr (by omega)⟩⟩
  · rintro ⟨f1,f2,f3,hq,kk,c1,c2,⟨b1,b2,b3,b4⟩⟩
    replace b1:=b1.resolve_left (by decide)
    replace b2:=b2.resolve_left (by decide)
    replace b4:=b4.resolve_left (by decide)
    refine ⟨⟨⟨f1,f2,f3⟩,⟨by omega,by omega⟩,⟨by omega,by omega⟩,⟨by omega,by omega⟩,b3.resolve_left (by decide),⟨by omega,by omega⟩,fun j hj=>by omega⟩,fun j hj=>⟨(kk j hj).1,(kk j hj).2,?_⟩⟩
    skip
    all_goals
     skip
     have g2:=c2 j;have e0:j=0∨j=1∨j=2∨j=3:=by omega
     rcases e0 with rfl | rfl | rfl | rfl <;> omega
theorem eqv_42 {nm fl:ByteArray→Prop} {F:Nat→Gv} {a:Fv} {p:Nat} {A:Nat→ByteArray} {q:Nat} {K:Nat→Int} {i:Int} (h:a.k=42) (hm : -9223372036854775808≤a.m∧a.m≤9223372036854775807):Ipk nm fl F a p A q K i↔Npk nm fl F a p A q K i:=by
  unfold Ipk Npk alw
  rw [shk_42 h,h]
  have hr:rwk 42 q=⟨1,1,0,0,0,0,0,0,1⟩:=rfl
  have hs:∀ j,sdk 42 a.m q j=3:=fun _=>rfl
  rw [hr,show txo nm fl _ a.x = _ from txo_1]
  simp only [hs]
  unfold br ex tk tx
  clear hr hs h
  constructor
  · rintro ⟨⟨⟨f1,f2,f3⟩,⟨k1,k2⟩,⟨o1,o2⟩,⟨m1,m2⟩,ht,⟨n1,n2⟩,hn⟩,hk⟩
    have kk:∀ j,j < q→0≤K j∧K j < i:=fun j hj=>⟨(hk j hj).1,(hk j hj).2.1⟩
    exact ⟨f1,f2,f3,by omega,kk,(by omega),(fun j h1 h2=>by have:=hk j (by omega);omega),⟨.inr (by omega),.inr (by omega),.inl rfl,.inr (by omega)⟩,ht⟩
  · rintro ⟨f1,f2,f3,hq,kk,c1,c2,⟨b1,b2,b3,b4⟩,ht⟩
    replace b1:=b1.resolve_left (by decide)
    replace b2:=b2.resolve_left (by decide)
    replace b4:=b4.resolve_left (by decide)
    refine ⟨⟨⟨f1,f2,f3⟩,⟨by omega,by omega⟩,⟨by omega,by omega⟩,⟨by omega,by omega⟩,ht,⟨by omega,by omega⟩,fun j hj=>by omega⟩,fun j hj=>⟨(kk j hj).1,(kk j hj).2,?_⟩⟩
    skip
    all_goals
     skip
     have g2:=c2 j;have e0:j=0∨j=1∨j=2∨j=3:=by omega
     rcases e0 with rfl | rfl | rfl | rfl <;> omega
def kok (k:Int):Prop:=(1≤k∧k≤16)∨(20≤k∧k≤37)∨(40≤k∧k≤42)
theorem shk_kok {nm fl:ByteArray→Prop} {F:Nat→Gv} {a:Fv} {p:Nat} {A:Nat→ByteArray} {q:Nat} {K:Nat→Int} (h:¬ kok a.k):¬ shk nm fl F a p A q K:=by
  unfold kok at h
  unfold shk
  rw [if_neg (by omega),if_neg (by omega),if_neg (by omega),if_neg (by omega),if_neg (by omega),if_neg (by omega),if_neg (by omega),if_neg (by omega),if_neg (by omega),if_neg (by omega),if_neg (by omega),if_neg (by omega),if_neg (by omega),if_neg (by omega),if_neg (by omega),if_neg (by omega),if_neg (by omega),if_neg (by omega),if_neg (by omega),if_neg (by omega),if_neg (by omega),if_neg (by omega),if_neg (by omega),if_neg (by omega),if_neg (by omega),if_neg (by omega),if_neg (by omega),if_neg (by omega),if_neg (by omega),if_neg (by omega),if_neg (by omega),if_neg (by omega),if_neg (by omega),if_neg (by omega),if_neg (by omega),if_neg (by omega),if_neg (by omega)]
  exact id
theorem eqv_all {nm fl:ByteArray→Prop} {F:Nat→Gv} {a:Fv} {p:Nat} {A:Nat→ByteArray} {q:Nat} {K:Nat→Int} {i:Int} (h:kok a.k) (hm : -9223372036854775808≤a.m∧a.m≤9223372036854775807):Ipk nm fl F a p A q K i↔Npk nm fl F a p A q K i:=by
  unfold kok at h
  have hc:a.k=1∨a.k=2∨a.k=3∨a.k=4∨a.k=5∨a.k=6∨a.k=7∨a.k=8∨a.k=9∨a.k=10∨a.k=11∨a.k=12∨a.k=13∨a.k=14∨a.k=15∨a.k=16∨a.k=20∨a.k=21∨a.k=22∨a.k=23∨a.k=24∨a.k=25∨a.k=26∨a.k=27∨a.k=28∨a.k=29∨a.k=30∨a.k=31∨a.k=32∨a.k=33∨a.k=34∨a.k=35∨a.k=36∨a.k=37∨a.k=40∨a.k=41∨a.k=42:=by omega
  rcases hc with h | h | h | h | h | h | h | h | h | h | h | h | h | h | h | h | h | h | h | h | h | h | h | h | h | h | h | h | h | h | h | h | h | h | h | h | h
  · exact eqv_1 h hm
  · exact eqv_2 h hm
  · exact eqv_3 h hm
  · exact eqv_4 h hm
  · exact eqv_5 h hm
  · exact eqv_6 h hm
  · exact eqv_7 h hm
  · exact eqv_8 h hm
  · exact eqv_9 h hm
  · exact eqv_10 h hm
  · exact eqv_11 h hm
  · exact eqv_12 h hm
  · exact eqv_13 h hm
  · exact eqv_14 h hm
  · exact eqv_15 h hm
  · exact eqv_16 h hm
  · exact eqv_20 h hm
  · exact eqv_21 h hm
  · exact eqv_22 h hm
  · exact eqv_23 h hm
  · exact eqv_24 h hm
  · exact eqv_25 h hm
  · exact eqv_26 h hm
  · exact eqv_27 h hm
  · exact eqv_28 h hm
  · exact eqv_29 h hm
  · exact eqv_30 h hm
  · exact eqv_31 h hm
  · exact eqv_32 h hm
  · exact eqv_33 h hm
  · exact eqv_34 h hm
  · exact eqv_35 h hm
  · exact eqv_36 h hm
  · exact eqv_37 h hm
  · exact eqv_40 h hm
  · exact eqv_41 h hm
  · exact eqv_42 h hm
theorem ndk_iff {nm fl:ByteArray→Prop} {F:Nat→Gv} {i:Nat} (hm : -9223372036854775808≤(F i).a.m∧(F i).a.m≤9223372036854775807):ndk nm fl F i↔(kok (F i).a.k∧Ipk nm fl F (F i).a (F i).p (F i).A (F i).q (F i).K (i:Int)):=by
  constructor
  · intro h
    have hk:kok (F i).a.k:=Classical.byContradiction fun g=>shk_kok g h.2.2.2.2.2
    exact ⟨hk,(eqv_all hk hm).2 h⟩
  · intro h
    exact (eqv_all h.1 hm).1 h.2
end Go.Proofs.YtomcmnompajnlaaGreatDoor.Fo
