import Derived.Test.YtomcmnompajnlaaGreatDoorTXZSkxb
import Derived.Test.YtomcmnompajnlaaGreatDoorTXZSkf
import Derived.Test.YtomcmnompajnlaaGreatDoorTXZSkg
set_option maxRecDepth 100000
set_option maxHeartbeats 8000000
namespace Go.Proofs.YtomcmnompajnlaaGreatDoor.Fo.Po
open Go.ChangeShapes Go.WideShapes Go.ChangeAt Go.RowKit
set_option linter.unusedVariables false
theorem xp_21 {nm : ByteArray → Prop} {w : World} {v : Value} {n : Nat} {F : Nat → Gv} {vn vk : Value} {p : Nat} {A : Nat → ByteArray} {q : Nat} {K : Nat → Int} (s : Sx nm w v n F vn vk p A q K) (a : Fv) (hga : a.g < 18446744073709551616) (hk : a.k = 21) :
  Calls Tryz.prog 87 #[.agg #[v],fmv a vn vk] w fun e w'=>e = .returned (.bool (dc (q=0∧br a p false false false false)))∧Below w.heap.size w w':=by
 have hs:=s.sy a hga 56 102
 obtain ⟨W2,hW2⟩:∃ W2,W2=(w.alloc (.cells #[v] 56)).alloc (.cells #[.int .i64 a.k,.int .i64 a.f,.int .i64 a.t,.int .i64 a.l,.int .i64 a.o,.int .i64 a.m,.float .f64 a.g,.string a.x,vn,vk] 102):=⟨_,rfl⟩
 rw [← hW2] at hs
 have HBL:Hid (∀ W,Below W2.heap.size W2 W→Below w.heap.size w W):=(fun W hb=>by rw [hW2] at hb;exact (bel2 w _ _).trans (hb.mono (bel2 w _ _).size):∀ W,_)
 have HSY:Hid (Sy nm W2 w.heap.size v n F a vn vk p A q K):=hs
 have hqI:(q:Int)≤1048576:=by have:=s.hq;omega
 obtain ⟨pn,cn,rfl,_⟩:=s.rn
 obtain ⟨pk,ck,rfl,_⟩:=s.rk
 obtain ⟨pf,cf,rfl,_⟩:=s.rf
 have HSQ:Hid (q≤1048576):=s.hq
 obtain ⟨R,hR⟩:∃ R,R=dc (q=0∧br a p false false false false):=⟨_,rfl⟩
 have HR:Hid (R=dc (q=0∧br a p false false false false)):=hR
 rw [← hR]
 clear hs s hR hga
 obtain ⟨k,f,t,l,o,m,g,x⟩:=a
 dsimp only at hk
 subst hk
 by_cases hq0:q=0
 ·subst hq0
  go_enter Tryz.func87,Tryz.ntmps87
  unfold fmv
  dsimp only at hW2
  go_wp2_with fail
  rw [← hW2]
  clear hW2
  have B0:Below W2.heap.size W2 W2:=Below.refl _ _
  obtain ⟨c0,c1,c2,c3,c4,c5,c6,c7,c8,c9⟩:=(show Sy nm W2 w.heap.size _ n F _ _ _ p A _ K from HSY).bx
  have ct:=(show Sy nm W2 w.heap.size _ n F _ _ _ p A _ K from HSY).ct
  dsimp only at c0 c1 c2 c3 c4 c5 c6 c7
  go_wp2_with fail
  refine ((show Sy nm W2 w.heap.size _ n F _ _ _ p A _ K from HSY).bare false false false false _ B0).mono ?_
  rintro e w1 ⟨rfl,B1⟩
  clear c0 c1 c2 c3 c4 c5 c6 c7 c8 c9 ct
  obtain ⟨c0,c1,c2,c3,c4,c5,c6,c7,c8,c9⟩:=(show Sy nm W2 w.heap.size _ n F _ _ _ p A _ K from HSY).bx.below B1
  have ct:=(B1.cell (p:=⟨w.heap.size,0,none⟩) (lt_of_cell (show Sy nm W2 w.heap.size _ n F _ _ _ p A _ K from HSY).ct)).trans (show Sy nm W2 w.heap.size _ n F _ _ _ p A _ K from HSY).ct
  dsimp only at c0 c1 c2 c3 c4 c5 c6 c7
  by_cases h1:br ⟨21,f,t,l,o,m,g,x⟩ p false false false false
  ·rw [dc_t h1]
   have HH1:Hid (br ⟨21,f,t,l,o,m,g,x⟩ p false false false false):=h1
   clear h1
   go_wp2_with fail
   go_ret
   exact ⟨by rw [show R = _ from HR,dc_t ⟨(by first | rfl | trivial),HH1⟩];first | rfl | (simp [*];done),(show ∀ W,Below W2.heap.size W2 W→Below w.heap.size w W from HBL) _ B1⟩
  ·rw [dc_f h1]
   have HN9:Hid (Nt (br ⟨21,f,t,l,o,m,g,x⟩ p false false false false)):=h1
   clear h1
   go_wp2_with fail
   go_ret
   exact ⟨by rw [show R = _ from HR,dc_f (fun g=>HN9 g.2)];first | rfl | (simp [*];done),(show ∀ W,Below W2.heap.size W2 W→Below w.heap.size w W from HBL) _ B1⟩
 ·have e0:((q:Int) == 0)=false:=bne (by omega)
  have HN9:Hid (Nt (q=0)):=hq0
  clear hq0
  go_enter Tryz.func87,Tryz.ntmps87
  unfold fmv
  dsimp only at hW2
  go_wp2_with fail
  go_ret
  exact ⟨by rw [show R = _ from HR,dc_f (fun g=>HN9 g.1)];rfl,bel2 _ _ _⟩
theorem xp_22 {nm : ByteArray → Prop} {w : World} {v : Value} {n : Nat} {F : Nat → Gv} {vn vk : Value} {p : Nat} {A : Nat → ByteArray} {q : Nat} {K : Nat → Int} (s : Sx nm w v n F vn vk p A q K) (a : Fv) (hga : a.g < 18446744073709551616) (hk : a.k = 22) :
  Calls Tryz.prog 87 #[.agg #[v],fmv a vn vk] w fun e w'=>e = .returned (.bool (dc (q=0∧br a p false false false false)))∧Below w.heap.size w w':=by
 have hs:=s.sy a hga 56 102
 obtain ⟨W2,hW2⟩:∃ W2,W2=(w.alloc (.cells #[v] 56)).alloc (.cells #[.int .i64 a.k,.int .i64 a.f,.int .i64 a.t,.int .i64 a.l,.int .i64 a.o,.int .i64 a.m,.float .f64 a.g,.string a.x,vn,vk] 102):=⟨_,rfl⟩
 rw [← hW2] at hs
 have HBL:Hid (∀ W,Below W2.heap.size W2 W→Below w.heap.size w W):=(fun W hb=>by rw [hW2] at hb;exact (bel2 w _ _).trans (hb.mono (bel2 w _ _).size):∀ W,_)
 have HSY:Hid (Sy nm W2 w.heap.size v n F a vn vk p A q K):=hs
 have hqI:(q:Int)≤1048576:=by have:=s.hq;omega
 obtain ⟨pn,cn,rfl,_⟩:=s.rn
 obtain ⟨pk,ck,rfl,_⟩:=s.rk
 obtain ⟨pf,cf,rfl,_⟩:=s.rf
 have HSQ:Hid (q≤1048576):=s.hq
 obtain ⟨R,hR⟩:∃ R,R=dc (q=0∧br a p false false false false):=⟨_,rfl⟩
 have HR:Hid (R=dc (q=0∧br a p false false false false)):=hR
 rw [← hR]
 clear hs s hR hga
 obtain ⟨k,f,t,l,o,m,g,x⟩:=a
 dsimp only at hk
 subst hk
 by_cases hq0:q=0
 ·subst hq0
  go_enter Tryz.func87,Tryz.ntmps87
  unfold fmv
  dsimp only at hW2
  go_wp2_with fail
  rw [← hW2]
  clear hW2
  have B0:Below W2.heap.size W2 W2:=Below.refl _ _
  obtain ⟨c0,c1,c2,c3,c4,c5,c6,c7,c8,c9⟩:=(show Sy nm W2 w.heap.size _ n F _ _ _ p A _ K from HSY).bx
  have ct:=(show Sy nm W2 w.heap.size _ n F _ _ _ p A _ K from HSY).ct
  dsimp only at c0 c1 c2 c3 c4 c5 c6 c7
  go_wp2_with fail
  refine ((show Sy nm W2 w.heap.size _ n F _ _ _ p A _ K from HSY).bare false false false false _ B0).mono ?_
  rintro e w1 ⟨rfl,B1⟩
  clear c0 c1 c2 c3 c4 c5 c6 c7 c8 c9 ct
  obtain ⟨c0,c1,c2,c3,c4,c5,c6,c7,c8,c9⟩:=(show Sy nm W2 w.heap.size _ n F _ _ _ p A _ K from HSY).bx.below B1
  have ct:=(B1.cell (p:=⟨w.heap.size,0,none⟩) (lt_of_cell (show Sy nm W2 w.heap.size _ n F _ _ _ p A _ K from HSY).ct)).trans (show Sy nm W2 w.heap.size _ n F _ _ _ p A _ K from HSY).ct
  dsimp only at c0 c1 c2 c3 c4 c5 c6 c7
  by_cases h1:br ⟨22,f,t,l,o,m,g,x⟩ p false false false false
  ·rw [dc_t h1]
   have HH1:Hid (br ⟨22,f,t,l,o,m,g,x⟩ p false false false false):=h1
   clear h1
   go_wp2_with fail
   go_ret
   exact ⟨by rw [show R = _ from HR,dc_t ⟨(by first | rfl | trivial),HH1⟩];first | rfl | (simp [*];done),(show ∀ W,Below W2.heap.size W2 W→Below w.heap.size w W from HBL) _ B1⟩
  ·rw [dc_f h1]
   have HN9:Hid (Nt (br ⟨22,f,t,l,o,m,g,x⟩ p false false false false)):=h1
   clear h1
   go_wp2_with fail
   go_ret
   exact ⟨by rw [show R = _ from HR,dc_f (fun g=>HN9 g.2)];first | rfl | (simp [*];done),(show ∀ W,Below W2.heap.size W2 W→Below w.heap.size w W from HBL) _ B1⟩
 ·have e0:((q:Int) == 0)=false:=bne (by omega)
  have HN9:Hid (Nt (q=0)):=hq0
  clear hq0
  go_enter Tryz.func87,Tryz.ntmps87
  unfold fmv
  dsimp only at hW2
  go_wp2_with fail
  go_ret
  exact ⟨by rw [show R = _ from HR,dc_f (fun g=>HN9 g.1)];rfl,bel2 _ _ _⟩
theorem xp_27 {nm : ByteArray → Prop} {w : World} {v : Value} {n : Nat} {F : Nat → Gv} {vn vk : Value} {p : Nat} {A : Nat → ByteArray} {q : Nat} {K : Nat → Int} (s : Sx nm w v n F vn vk p A q K) (a : Fv) (hga : a.g < 18446744073709551616) (hk : a.k = 27) :
  Calls Tryz.prog 87 #[.agg #[v],fmv a vn vk] w fun e w'=>e = .returned (.bool (dc (q=0∧br a p false false false false)))∧Below w.heap.size w w':=by
 have hs:=s.sy a hga 56 102
 obtain ⟨W2,hW2⟩:∃ W2,W2=(w.alloc (.cells #[v] 56)).alloc (.cells #[.int .i64 a.k,.int .i64 a.f,.int .i64 a.t,.int .i64 a.l,.int .i64 a.o,.int .i64 a.m,.float .f64 a.g,.string a.x,vn,vk] 102):=⟨_,rfl⟩
 rw [← hW2] at hs
 have HBL:Hid (∀ W,Below W2.heap.size W2 W→Below w.heap.size w W):=(fun W hb=>by rw [hW2] at hb;exact (bel2 w _ _).trans (hb.mono (bel2 w _ _).size):∀ W,_)
 have HSY:Hid (Sy nm W2 w.heap.size v n F a vn vk p A q K):=hs
 have hqI:(q:Int)≤1048576:=by have:=s.hq;omega
 obtain ⟨pn,cn,rfl,_⟩:=s.rn
 obtain ⟨pk,ck,rfl,_⟩:=s.rk
 obtain ⟨pf,cf,rfl,_⟩:=s.rf
 have HSQ:Hid (q≤1048576):=s.hq
 obtain ⟨R,hR⟩:∃ R,R=dc (q=0∧br a p false false false false):=⟨_,rfl⟩
 have HR:Hid (R=dc (q=0∧br a p false false false false)):=hR
 rw [← hR]
 clear hs s hR hga
 obtain ⟨k,f,t,l,o,m,g,x⟩:=a
 dsimp only at hk
 subst hk
 by_cases hq0:q=0
 ·subst hq0
  go_enter Tryz.func87,Tryz.ntmps87
  unfold fmv
  dsimp only at hW2
  go_wp2_with fail
  rw [← hW2]
  clear hW2
  have B0:Below W2.heap.size W2 W2:=Below.refl _ _
  obtain ⟨c0,c1,c2,c3,c4,c5,c6,c7,c8,c9⟩:=(show Sy nm W2 w.heap.size _ n F _ _ _ p A _ K from HSY).bx
  have ct:=(show Sy nm W2 w.heap.size _ n F _ _ _ p A _ K from HSY).ct
  dsimp only at c0 c1 c2 c3 c4 c5 c6 c7
  go_wp2_with fail
  refine ((show Sy nm W2 w.heap.size _ n F _ _ _ p A _ K from HSY).bare false false false false _ B0).mono ?_
  rintro e w1 ⟨rfl,B1⟩
  clear c0 c1 c2 c3 c4 c5 c6 c7 c8 c9 ct
  obtain ⟨c0,c1,c2,c3,c4,c5,c6,c7,c8,c9⟩:=(show Sy nm W2 w.heap.size _ n F _ _ _ p A _ K from HSY).bx.below B1
  have ct:=(B1.cell (p:=⟨w.heap.size,0,none⟩) (lt_of_cell (show Sy nm W2 w.heap.size _ n F _ _ _ p A _ K from HSY).ct)).trans (show Sy nm W2 w.heap.size _ n F _ _ _ p A _ K from HSY).ct
  dsimp only at c0 c1 c2 c3 c4 c5 c6 c7
  by_cases h1:br ⟨27,f,t,l,o,m,g,x⟩ p false false false false
  ·rw [dc_t h1]
   have HH1:Hid (br ⟨27,f,t,l,o,m,g,x⟩ p false false false false):=h1
   clear h1
   go_wp2_with fail
   go_ret
   exact ⟨by rw [show R = _ from HR,dc_t ⟨(by first | rfl | trivial),HH1⟩];first | rfl | (simp [*];done),(show ∀ W,Below W2.heap.size W2 W→Below w.heap.size w W from HBL) _ B1⟩
  ·rw [dc_f h1]
   have HN9:Hid (Nt (br ⟨27,f,t,l,o,m,g,x⟩ p false false false false)):=h1
   clear h1
   go_wp2_with fail
   go_ret
   exact ⟨by rw [show R = _ from HR,dc_f (fun g=>HN9 g.2)];first | rfl | (simp [*];done),(show ∀ W,Below W2.heap.size W2 W→Below w.heap.size w W from HBL) _ B1⟩
 ·have e0:((q:Int) == 0)=false:=bne (by omega)
  have HN9:Hid (Nt (q=0)):=hq0
  clear hq0
  go_enter Tryz.func87,Tryz.ntmps87
  unfold fmv
  dsimp only at hW2
  go_wp2_with fail
  go_ret
  exact ⟨by rw [show R = _ from HR,dc_f (fun g=>HN9 g.1)];rfl,bel2 _ _ _⟩
theorem xp_29 {nm : ByteArray → Prop} {w : World} {v : Value} {n : Nat} {F : Nat → Gv} {vn vk : Value} {p : Nat} {A : Nat → ByteArray} {q : Nat} {K : Nat → Int} (s : Sx nm w v n F vn vk p A q K) (a : Fv) (hga : a.g < 18446744073709551616) (hk : a.k = 29) :
  Calls Tryz.prog 87 #[.agg #[v],fmv a vn vk] w fun e w'=>e = .returned (.bool (dc (q=2∧ex F K 0 2∧br a p false false false false)))∧Below w.heap.size w w':=by
 have hs:=s.sy a hga 56 102
 obtain ⟨W2,hW2⟩:∃ W2,W2=(w.alloc (.cells #[v] 56)).alloc (.cells #[.int .i64 a.k,.int .i64 a.f,.int .i64 a.t,.int .i64 a.l,.int .i64 a.o,.int .i64 a.m,.float .f64 a.g,.string a.x,vn,vk] 102):=⟨_,rfl⟩
 rw [← hW2] at hs
 have HBL:Hid (∀ W,Below W2.heap.size W2 W→Below w.heap.size w W):=(fun W hb=>by rw [hW2] at hb;exact (bel2 w _ _).trans (hb.mono (bel2 w _ _).size):∀ W,_)
 have HSY:Hid (Sy nm W2 w.heap.size v n F a vn vk p A q K):=hs
 have hqI:(q:Int)≤1048576:=by have:=s.hq;omega
 obtain ⟨pn,cn,rfl,_⟩:=s.rn
 obtain ⟨pk,ck,rfl,_⟩:=s.rk
 obtain ⟨pf,cf,rfl,_⟩:=s.rf
 have HSQ:Hid (q≤1048576):=s.hq
 obtain ⟨R,hR⟩:∃ R,R=dc (q=2∧ex F K 0 2∧br a p false false false false):=⟨_,rfl⟩
 have HR:Hid (R=dc (q=2∧ex F K 0 2∧br a p false false false false)):=hR
 rw [← hR]
 clear hs s hR hga
 obtain ⟨k,f,t,l,o,m,g,x⟩:=a
 dsimp only at hk
 subst hk
 by_cases hq0:q=2
 ·subst hq0
  go_enter Tryz.func87,Tryz.ntmps87
  unfold fmv
  dsimp only at hW2
  go_wp2_with fail
  rw [← hW2]
  clear hW2
  have B0:Below W2.heap.size W2 W2:=Below.refl _ _
  obtain ⟨c0,c1,c2,c3,c4,c5,c6,c7,c8,c9⟩:=(show Sy nm W2 w.heap.size _ n F _ _ _ p A _ K from HSY).bx
  have ct:=(show Sy nm W2 w.heap.size _ n F _ _ _ p A _ K from HSY).ct
  dsimp only at c0 c1 c2 c3 c4 c5 c6 c7
  go_wp2_with fail
  refine ((show Sy nm W2 w.heap.size _ n F _ _ _ p A _ K from HSY).exprs _ _ 0 2 rfl (by first | rfl | omega) (by omega) (by omega) _ B0).mono ?_
  rintro e w1 ⟨rfl,B1⟩
  clear c0 c1 c2 c3 c4 c5 c6 c7 c8 c9 ct
  obtain ⟨c0,c1,c2,c3,c4,c5,c6,c7,c8,c9⟩:=(show Sy nm W2 w.heap.size _ n F _ _ _ p A _ K from HSY).bx.below B1
  have ct:=(B1.cell (p:=⟨w.heap.size,0,none⟩) (lt_of_cell (show Sy nm W2 w.heap.size _ n F _ _ _ p A _ K from HSY).ct)).trans (show Sy nm W2 w.heap.size _ n F _ _ _ p A _ K from HSY).ct
  dsimp only at c0 c1 c2 c3 c4 c5 c6 c7
  by_cases h1:ex F K 0 2
  ·rw [dc_t h1]
   have HH1:Hid (ex F K 0 2):=h1
   clear h1
   go_wp2_with fail
   refine ((show Sy nm W2 w.heap.size _ n F _ _ _ p A _ K from HSY).bare false false false false _ B1).mono ?_
   rintro e w2 ⟨rfl,B2⟩
   clear c0 c1 c2 c3 c4 c5 c6 c7 c8 c9 ct
   obtain ⟨c0,c1,c2,c3,c4,c5,c6,c7,c8,c9⟩:=(show Sy nm W2 w.heap.size _ n F _ _ _ p A _ K from HSY).bx.below B2
   have ct:=(B2.cell (p:=⟨w.heap.size,0,none⟩) (lt_of_cell (show Sy nm W2 w.heap.size _ n F _ _ _ p A _ K from HSY).ct)).trans (show Sy nm W2 w.heap.size _ n F _ _ _ p A _ K from HSY).ct
   dsimp only at c0 c1 c2 c3 c4 c5 c6 c7
   by_cases h2:br ⟨29,f,t,l,o,m,g,x⟩ p false false false false
   ·rw [dc_t h2]
    have HH2:Hid (br ⟨29,f,t,l,o,m,g,x⟩ p false false false false):=h2
    clear h2
    go_wp2_with fail
    go_ret
    exact ⟨by rw [show R = _ from HR,dc_t ⟨(by first | rfl | trivial),HH1,HH2⟩];first | rfl | (simp [*];done),(show ∀ W,Below W2.heap.size W2 W→Below w.heap.size w W from HBL) _ B2⟩
   ·rw [dc_f h2]
    have HN9:Hid (Nt (br ⟨29,f,t,l,o,m,g,x⟩ p false false false false)):=h2
    clear h2
    go_wp2_with fail
    go_ret
    exact ⟨by rw [show R = _ from HR,dc_f (fun g=>HN9 g.2.2)];first | rfl | (simp [*];done),(show ∀ W,Below W2.heap.size W2 W→Below w.heap.size w W from HBL) _ B2⟩
  ·rw [dc_f h1]
   have HN9:Hid (Nt (ex F K 0 2)):=h1
   clear h1
   go_wp2_with fail
   go_ret
   exact ⟨by rw [show R = _ from HR,dc_f (fun g=>HN9 g.2.1)];first | rfl | (simp [*];done),(show ∀ W,Below W2.heap.size W2 W→Below w.heap.size w W from HBL) _ B1⟩
 ·have e0:((q:Int) == 2)=false:=bne (by omega)
  have HN9:Hid (Nt (q=2)):=hq0
  clear hq0
  go_enter Tryz.func87,Tryz.ntmps87
  unfold fmv
  dsimp only at hW2
  go_wp2_with fail
  go_ret
  exact ⟨by rw [show R = _ from HR,dc_f (fun g=>HN9 g.1)];rfl,bel2 _ _ _⟩
theorem xp_40 {nm : ByteArray → Prop} {w : World} {v : Value} {n : Nat} {F : Nat → Gv} {vn vk : Value} {p : Nat} {A : Nat → ByteArray} {q : Nat} {K : Nat → Int} (s : Sx nm w v n F vn vk p A q K) (a : Fv) (hga : a.g < 18446744073709551616) (hk : a.k = 40) :
  Calls Tryz.prog 87 #[.agg #[v],fmv a vn vk] w fun e w'=>e = .returned (.bool (dc (q=1∧ex F K 0 1∧br a p false false false false)))∧Below w.heap.size w w':=by
 have hs:=s.sy a hga 56 102
 obtain ⟨W2,hW2⟩:∃ W2,W2=(w.alloc (.cells #[v] 56)).alloc (.cells #[.int .i64 a.k,.int .i64 a.f,.int .i64 a.t,.int .i64 a.l,.int .i64 a.o,.int .i64 a.m,.float .f64 a.g,.string a.x,vn,vk] 102):=⟨_,rfl⟩
 rw [← hW2] at hs
 have HBL:Hid (∀ W,Below W2.heap.size W2 W→Below w.heap.size w W):=(fun W hb=>by rw [hW2] at hb;exact (bel2 w _ _).trans (hb.mono (bel2 w _ _).size):∀ W,_)
 have HSY:Hid (Sy nm W2 w.heap.size v n F a vn vk p A q K):=hs
 have hqI:(q:Int)≤1048576:=by have:=s.hq;omega
 obtain ⟨pn,cn,rfl,_⟩:=s.rn
 obtain ⟨pk,ck,rfl,_⟩:=s.rk
 obtain ⟨pf,cf,rfl,_⟩:=s.rf
 have HSQ:Hid (q≤1048576):=s.hq
 obtain ⟨R,hR⟩:∃ R,R=dc (q=1∧ex F K 0 1∧br a p false false false false):=⟨_,rfl⟩
 have HR:Hid (R=dc (q=1∧ex F K 0 1∧br a p false false false false)):=hR
 rw [← hR]
 clear hs s hR hga
 obtain ⟨k,f,t,l,o,m,g,x⟩:=a
 dsimp only at hk
 subst hk
 by_cases hq0:q=1
 ·subst hq0
  go_enter Tryz.func87,Tryz.ntmps87
  unfold fmv
  dsimp only at hW2
  go_wp2_with fail
  rw [← hW2]
  clear hW2
  have B0:Below W2.heap.size W2 W2:=Below.refl _ _
  obtain ⟨c0,c1,c2,c3,c4,c5,c6,c7,c8,c9⟩:=(show Sy nm W2 w.heap.size _ n F _ _ _ p A _ K from HSY).bx
  have ct:=(show Sy nm W2 w.heap.size _ n F _ _ _ p A _ K from HSY).ct
  dsimp only at c0 c1 c2 c3 c4 c5 c6 c7
  go_wp2_with fail
  refine ((show Sy nm W2 w.heap.size _ n F _ _ _ p A _ K from HSY).exprs _ _ 0 1 rfl (by first | rfl | omega) (by omega) (by omega) _ B0).mono ?_
  rintro e w1 ⟨rfl,B1⟩
  clear c0 c1 c2 c3 c4 c5 c6 c7 c8 c9 ct
  obtain ⟨c0,c1,c2,c3,c4,c5,c6,c7,c8,c9⟩:=(show Sy nm W2 w.heap.size _ n F _ _ _ p A _ K from HSY).bx.below B1
  have ct:=(B1.cell (p:=⟨w.heap.size,0,none⟩) (lt_of_cell (show Sy nm W2 w.heap.size _ n F _ _ _ p A _ K from HSY).ct)).trans (show Sy nm W2 w.heap.size _ n F _ _ _ p A _ K from HSY).ct
  dsimp only at c0 c1 c2 c3 c4 c5 c6 c7
  by_cases h1:ex F K 0 1
  ·rw [dc_t h1]
   have HH1:Hid (ex F K 0 1):=h1
   clear h1
   go_wp2_with fail
   refine ((show Sy nm W2 w.heap.size _ n F _ _ _ p A _ K from HSY).bare false false false false _ B1).mono ?_
   rintro e w2 ⟨rfl,B2⟩
   clear c0 c1 c2 c3 c4 c5 c6 c7 c8 c9 ct
   obtain ⟨c0,c1,c2,c3,c4,c5,c6,c7,c8,c9⟩:=(show Sy nm W2 w.heap.size _ n F _ _ _ p A _ K from HSY).bx.below B2
   have ct:=(B2.cell (p:=⟨w.heap.size,0,none⟩) (lt_of_cell (show Sy nm W2 w.heap.size _ n F _ _ _ p A _ K from HSY).ct)).trans (show Sy nm W2 w.heap.size _ n F _ _ _ p A _ K from HSY).ct
   dsimp only at c0 c1 c2 c3 c4 c5 c6 c7
   by_cases h2:br ⟨40,f,t,l,o,m,g,x⟩ p false false false false
   ·rw [dc_t h2]
    have HH2:Hid (br ⟨40,f,t,l,o,m,g,x⟩ p false false false false):=h2
    clear h2
    go_wp2_with fail
    go_ret
    exact ⟨by rw [show R = _ from HR,dc_t ⟨(by first | rfl | trivial),HH1,HH2⟩];first | rfl | (simp [*];done),(show ∀ W,Below W2.heap.size W2 W→Below w.heap.size w W from HBL) _ B2⟩
   ·rw [dc_f h2]
    have HN9:Hid (Nt (br ⟨40,f,t,l,o,m,g,x⟩ p false false false false)):=h2
    clear h2
    go_wp2_with fail
    go_ret
    exact ⟨by rw [show R = _ from HR,dc_f (fun g=>HN9 g.2.2)];first | rfl | (simp [*];done),(show ∀ W,Below W2.heap.size W2 W→Below w.heap.size w W from HBL) _ B2⟩
  ·rw [dc_f h1]
   have HN9:Hid (Nt (ex F K 0 1)):=h1
   clear h1
   go_wp2_with fail
   go_ret
   exact ⟨by rw [show R = _ from HR,dc_f (fun g=>HN9 g.2.1)];first | rfl | (simp [*];done),(show ∀ W,Below W2.heap.size W2 W→Below w.heap.size w W from HBL) _ B1⟩
 ·have e0:((q:Int) == 1)=false:=bne (by omega)
  have HN9:Hid (Nt (q=1)):=hq0
  clear hq0
  go_enter Tryz.func87,Tryz.ntmps87
  unfold fmv
  dsimp only at hW2
  go_wp2_with fail
  go_ret
  exact ⟨by rw [show R = _ from HR,dc_f (fun g=>HN9 g.1)];rfl,bel2 _ _ _⟩
theorem xp_41 {nm : ByteArray → Prop} {w : World} {v : Value} {n : Nat} {F : Nat → Gv} {vn vk : Value} {p : Nat} {A : Nat → ByteArray} {q : Nat} {K : Nat → Int} (s : Sx nm w v n F vn vk p A q K) (a : Fv) (hga : a.g < 18446744073709551616) (hk : a.k = 41) :
  Calls Tryz.prog 87 #[.agg #[v],fmv a vn vk] w fun e w'=>e = .returned (.bool (dc (q=2∧ex F K 0 2∧br a p false false false false)))∧Below w.heap.size w w':=by
 have hs:=s.sy a hga 56 102
 obtain ⟨W2,hW2⟩:∃ W2,W2=(w.alloc (.cells #[v] 56)).alloc (.cells #[.int .i64 a.k,.int .i64 a.f,.int .i64 a.t,.int .i64 a.l,.int .i64 a.o,.int .i64 a.m,.float .f64 a.g,.string a.x,vn,vk] 102):=⟨_,rfl⟩
 rw [← hW2] at hs
 have HBL:Hid (∀ W,Below W2.heap.size W2 W→Below w.heap.size w W):=(fun W hb=>by rw [hW2] at hb;exact (bel2 w _ _).trans (hb.mono (bel2 w _ _).size):∀ W,_)
 have HSY:Hid (Sy nm W2 w.heap.size v n F a vn vk p A q K):=hs
 have hqI:(q:Int)≤1048576:=by have:=s.hq;omega
 obtain ⟨pn,cn,rfl,_⟩:=s.rn
 obtain ⟨pk,ck,rfl,_⟩:=s.rk
 obtain ⟨pf,cf,rfl,_⟩:=s.rf
 have HSQ:Hid (q≤1048576):=s.hq
 obtain ⟨R,hR⟩:∃ R,R=dc (q=2∧ex F K 0 2∧br a p false false false false):=⟨_,rfl⟩
 have HR:Hid (R=dc (q=2∧ex F K 0 2∧br a p false false false false)):=hR
 rw [← hR]
 clear hs s hR hga
 obtain ⟨k,f,t,l,o,m,g,x⟩:=a
 dsimp only at hk
 subst hk
 by_cases hq0:q=2
 ·subst hq0
  go_enter Tryz.func87,Tryz.ntmps87
  unfold fmv
  dsimp only at hW2
  go_wp2_with fail
  rw [← hW2]
  clear hW2
  have B0:Below W2.heap.size W2 W2:=Below.refl _ _
  obtain ⟨c0,c1,c2,c3,c4,c5,c6,c7,c8,c9⟩:=(show Sy nm W2 w.heap.size _ n F _ _ _ p A _ K from HSY).bx
  have ct:=(show Sy nm W2 w.heap.size _ n F _ _ _ p A _ K from HSY).ct
  dsimp only at c0 c1 c2 c3 c4 c5 c6 c7
  go_wp2_with fail
  refine ((show Sy nm W2 w.heap.size _ n F _ _ _ p A _ K from HSY).exprs _ _ 0 2 rfl (by first | rfl | omega) (by omega) (by omega) _ B0).mono ?_
  rintro e w1 ⟨rfl,B1⟩
  clear c0 c1 c2 c3 c4 c5 c6 c7 c8 c9 ct
  obtain ⟨c0,c1,c2,c3,c4,c5,c6,c7,c8,c9⟩:=(show Sy nm W2 w.heap.size _ n F _ _ _ p A _ K from HSY).bx.below B1
  have ct:=(B1.cell (p:=⟨w.heap.size,0,none⟩) (lt_of_cell (show Sy nm W2 w.heap.size _ n F _ _ _ p A _ K from HSY).ct)).trans (show Sy nm W2 w.heap.size _ n F _ _ _ p A _ K from HSY).ct
  dsimp only at c0 c1 c2 c3 c4 c5 c6 c7
  by_cases h1:ex F K 0 2
  ·rw [dc_t h1]
   have HH1:Hid (ex F K 0 2):=h1
   clear h1
   go_wp2_with fail
   refine ((show Sy nm W2 w.heap.size _ n F _ _ _ p A _ K from HSY).bare false false false false _ B1).mono ?_
   rintro e w2 ⟨rfl,B2⟩
   clear c0 c1 c2 c3 c4 c5 c6 c7 c8 c9 ct
   obtain ⟨c0,c1,c2,c3,c4,c5,c6,c7,c8,c9⟩:=(show Sy nm W2 w.heap.size _ n F _ _ _ p A _ K from HSY).bx.below B2
   have ct:=(B2.cell (p:=⟨w.heap.size,0,none⟩) (lt_of_cell (show Sy nm W2 w.heap.size _ n F _ _ _ p A _ K from HSY).ct)).trans (show Sy nm W2 w.heap.size _ n F _ _ _ p A _ K from HSY).ct
   dsimp only at c0 c1 c2 c3 c4 c5 c6 c7
   by_cases h2:br ⟨41,f,t,l,o,m,g,x⟩ p false false false false
   ·rw [dc_t h2]
    have HH2:Hid (br ⟨41,f,t,l,o,m,g,x⟩ p false false false false):=h2
    clear h2
    go_wp2_with fail
    go_ret
    exact ⟨by rw [show R = _ from HR,dc_t ⟨(by first | rfl | trivial),HH1,HH2⟩];first | rfl | (simp [*];done),(show ∀ W,Below W2.heap.size W2 W→Below w.heap.size w W from HBL) _ B2⟩
   ·rw [dc_f h2]
    have HN9:Hid (Nt (br ⟨41,f,t,l,o,m,g,x⟩ p false false false false)):=h2
    clear h2
    go_wp2_with fail
    go_ret
    exact ⟨by rw [show R = _ from HR,dc_f (fun g=>HN9 g.2.2)];first | rfl | (simp [*];done),(show ∀ W,Below W2.heap.size W2 W→Below w.heap.size w W from HBL) _ B2⟩
  ·rw [dc_f h1]
   have HN9:Hid (Nt (ex F K 0 2)):=h1
   clear h1
   go_wp2_with fail
   go_ret
   exact ⟨by rw [show R = _ from HR,dc_f (fun g=>HN9 g.2.1)];first | rfl | (simp [*];done),(show ∀ W,Below W2.heap.size W2 W→Below w.heap.size w W from HBL) _ B1⟩
 ·have e0:((q:Int) == 2)=false:=bne (by omega)
  have HN9:Hid (Nt (q=2)):=hq0
  clear hq0
  go_enter Tryz.func87,Tryz.ntmps87
  unfold fmv
  dsimp only at hW2
  go_wp2_with fail
  go_ret
  exact ⟨by rw [show R = _ from HR,dc_f (fun g=>HN9 g.1)];rfl,bel2 _ _ _⟩
theorem xp_42 {nm : ByteArray → Prop} {w : World} {v : Value} {n : Nat} {F : Nat → Gv} {vn vk : Value} {p : Nat} {A : Nat → ByteArray} {q : Nat} {K : Nat → Int} (s : Sx nm w v n F vn vk p A q K) (a : Fv) (hga : a.g < 18446744073709551616) (hk : a.k = 42) :
  Calls Tryz.prog 87 #[.agg #[v],fmv a vn vk] w fun e w'=>e = .returned (.bool (dc (q=1∧ex F K 0 1∧br a p false false true false∧nm a.x)))∧Below w.heap.size w w':=by
 have hs:=s.sy a hga 56 102
 obtain ⟨W2,hW2⟩:∃ W2,W2=(w.alloc (.cells #[v] 56)).alloc (.cells #[.int .i64 a.k,.int .i64 a.f,.int .i64 a.t,.int .i64 a.l,.int .i64 a.o,.int .i64 a.m,.float .f64 a.g,.string a.x,vn,vk] 102):=⟨_,rfl⟩
 rw [← hW2] at hs
 have HBL:Hid (∀ W,Below W2.heap.size W2 W→Below w.heap.size w W):=(fun W hb=>by rw [hW2] at hb;exact (bel2 w _ _).trans (hb.mono (bel2 w _ _).size):∀ W,_)
 have HSY:Hid (Sy nm W2 w.heap.size v n F a vn vk p A q K):=hs
 have hqI:(q:Int)≤1048576:=by have:=s.hq;omega
 obtain ⟨pn,cn,rfl,_⟩:=s.rn
 obtain ⟨pk,ck,rfl,_⟩:=s.rk
 obtain ⟨pf,cf,rfl,_⟩:=s.rf
 have HSQ:Hid (q≤1048576):=s.hq
 obtain ⟨R,hR⟩:∃ R,R=dc (q=1∧ex F K 0 1∧br a p false false true false∧nm a.x):=⟨_,rfl⟩
 have HR:Hid (R=dc (q=1∧ex F K 0 1∧br a p false false true false∧nm a.x)):=hR
 rw [← hR]
 clear hs s hR hga
 obtain ⟨k,f,t,l,o,m,g,x⟩:=a
 dsimp only at hk
 subst hk
 by_cases hq0:q=1
 ·subst hq0
  go_enter Tryz.func87,Tryz.ntmps87
  unfold fmv
  dsimp only at hW2
  go_wp2_with fail
  rw [← hW2]
  clear hW2
  have B0:Below W2.heap.size W2 W2:=Below.refl _ _
  obtain ⟨c0,c1,c2,c3,c4,c5,c6,c7,c8,c9⟩:=(show Sy nm W2 w.heap.size _ n F _ _ _ p A _ K from HSY).bx
  have ct:=(show Sy nm W2 w.heap.size _ n F _ _ _ p A _ K from HSY).ct
  dsimp only at c0 c1 c2 c3 c4 c5 c6 c7
  go_wp2_with fail
  refine ((show Sy nm W2 w.heap.size _ n F _ _ _ p A _ K from HSY).exprs _ _ 0 1 rfl (by first | rfl | omega) (by omega) (by omega) _ B0).mono ?_
  rintro e w1 ⟨rfl,B1⟩
  clear c0 c1 c2 c3 c4 c5 c6 c7 c8 c9 ct
  obtain ⟨c0,c1,c2,c3,c4,c5,c6,c7,c8,c9⟩:=(show Sy nm W2 w.heap.size _ n F _ _ _ p A _ K from HSY).bx.below B1
  have ct:=(B1.cell (p:=⟨w.heap.size,0,none⟩) (lt_of_cell (show Sy nm W2 w.heap.size _ n F _ _ _ p A _ K from HSY).ct)).trans (show Sy nm W2 w.heap.size _ n F _ _ _ p A _ K from HSY).ct
  dsimp only at c0 c1 c2 c3 c4 c5 c6 c7
  by_cases h1:ex F K 0 1
  ·rw [dc_t h1]
   have HH1:Hid (ex F K 0 1):=h1
   clear h1
   go_wp2_with fail
   refine ((show Sy nm W2 w.heap.size _ n F _ _ _ p A _ K from HSY).bare false false true false _ B1).mono ?_
   rintro e w2 ⟨rfl,B2⟩
   clear c0 c1 c2 c3 c4 c5 c6 c7 c8 c9 ct
   obtain ⟨c0,c1,c2,c3,c4,c5,c6,c7,c8,c9⟩:=(show Sy nm W2 w.heap.size _ n F _ _ _ p A _ K from HSY).bx.below B2
   have ct:=(B2.cell (p:=⟨w.heap.size,0,none⟩) (lt_of_cell (show Sy nm W2 w.heap.size _ n F _ _ _ p A _ K from HSY).ct)).trans (show Sy nm W2 w.heap.size _ n F _ _ _ p A _ K from HSY).ct
   dsimp only at c0 c1 c2 c3 c4 c5 c6 c7
   by_cases h2:br ⟨42,f,t,l,o,m,g,x⟩ p false false true false
   ·rw [dc_t h2]
    have HH2:Hid (br ⟨42,f,t,l,o,m,g,x⟩ p false false true false):=h2
    clear h2
    go_wp2_with fail
    refine ((((show Sy nm W2 w.heap.size _ n F _ _ _ p A _ K from HSY).hn x _).mono fun _ _ h=>(⟨h.1,below_to B2 h.2⟩:_∧Below W2.heap.size W2 _))).mono ?_
    rintro e w3 ⟨rfl,B3⟩
    clear c0 c1 c2 c3 c4 c5 c6 c7 c8 c9 ct
    obtain ⟨c0,c1,c2,c3,c4,c5,c6,c7,c8,c9⟩:=(show Sy nm W2 w.heap.size _ n F _ _ _ p A _ K from HSY).bx.below B3
    have ct:=(B3.cell (p:=⟨w.heap.size,0,none⟩) (lt_of_cell (show Sy nm W2 w.heap.size _ n F _ _ _ p A _ K from HSY).ct)).trans (show Sy nm W2 w.heap.size _ n F _ _ _ p A _ K from HSY).ct
    dsimp only at c0 c1 c2 c3 c4 c5 c6 c7
    by_cases h3:nm x
    ·rw [dc_t h3]
     have HH3:Hid (nm x):=h3
     clear h3
     go_wp2_with fail
     go_ret
     exact ⟨by rw [show R = _ from HR,dc_t ⟨(by first | rfl | trivial),HH1,HH2,HH3⟩];first | rfl | (simp [*];done),(show ∀ W,Below W2.heap.size W2 W→Below w.heap.size w W from HBL) _ B3⟩
    ·rw [dc_f h3]
     have HN9:Hid (Nt (nm x)):=h3
     clear h3
     go_wp2_with fail
     go_ret
     exact ⟨by rw [show R = _ from HR,dc_f (fun g=>HN9 g.2.2.2)];first | rfl | (simp [*];done),(show ∀ W,Below W2.heap.size W2 W→Below w.heap.size w W from HBL) _ B3⟩
   ·rw [dc_f h2]
    have HN9:Hid (Nt (br ⟨42,f,t,l,o,m,g,x⟩ p false false true false)):=h2
    clear h2
    go_wp2_with fail
    go_ret
    exact ⟨by rw [show R = _ from HR,dc_f (fun g=>HN9 g.2.2.1)];first | rfl | (simp [*];done),(show ∀ W,Below W2.heap.size W2 W→Below w.heap.size w W from HBL) _ B2⟩
  ·rw [dc_f h1]
   have HN9:Hid (Nt (ex F K 0 1)):=h1
   clear h1
   go_wp2_with fail
   go_ret
   exact ⟨by rw [show R = _ from HR,dc_f (fun g=>HN9 g.2.1)];first | rfl | (simp [*];done),(show ∀ W,Below W2.heap.size W2 W→Below w.heap.size w W from HBL) _ B1⟩
 ·have e0:((q:Int) == 1)=false:=bne (by omega)
  have HN9:Hid (Nt (q=1)):=hq0
  clear hq0
  go_enter Tryz.func87,Tryz.ntmps87
  unfold fmv
  dsimp only at hW2
  go_wp2_with fail
  go_ret
  exact ⟨by rw [show R = _ from HR,dc_f (fun g=>HN9 g.1)];rfl,bel2 _ _ _⟩
def shk (nm fl:ByteArray→Prop) (F:Nat→Gv) (a:Fv) (p:Nat) (A:Nat→ByteArray) (q:Nat) (K:Nat→Int):Prop :=
 if a.k=1 then ((∀ j,j < q→1≤kdk F K j∧kdk F K j≤16)∧br a p false false false false)
 else if a.k=2 then (br a p false false false true∧nd nm p A 1 200∧ex F K 0 q)
 else if a.k=3 then (br a p false false false true∧nd nm p A 1 1∧q=1∧ex F K 0 1)
 else if a.k=4 then (br a p false false false true∧nd nm p A 1 1∧q=1∧kdk F K 0=36)
 else if a.k=5 then (br a p false true false false∧1≤a.m∧a.m < (q:Int)∧(∀ j,j < a.m.toNat→kdk F K j=26∨kdk F K j=32∨kdk F K j=33)∧ex F K a.m.toNat q)
 else if a.k=6 then (br a p false false false false∧q=1∧kdk F K 0=34)
 else if a.k=7 then (br a p false false false false∧(q=2∨q=3)∧ex F K 0 1∧kdk F K 1=1∧(q=2∨kdk F K 2=1∨kdk F K 2=7))
 else if a.k=8 then (br a p false false false false∧q=2∧ex F K 0 1∧kdk F K 1=1)
 else if a.k=9 then (br a p false false false true∧nd nm p A 1 1∧(q=3∨q=4)∧ex F K 0 (q - 1)∧kdk F K (q - 1)=1)
 else if a.k=10 then (br a p false false false true∧nd nm p A 1 200∧q=2∧ex F K 0 1∧kdk F K 1=1)
 else if a.k=11 then (br a p false false false false∧q=0)
 else if a.k=12 then (br a p false false false false∧q=0)
 else if a.k=13 then (br a p false false false false∧ex F K 0 q)
 else if a.k=14 then (br a p false false false true∧nd nm p A 1 2∧q=2∧kdk F K 0=1∧kdk F K 1=1)
 else if a.k=15 then (br a p false false false false∧q=1∧ex F K 0 1)
 else if a.k=16 then (br a p false false false false∧q=1∧kdk F K 0=34)
 else if a.k=20 then (q=0∧br a p false false false false)
 else if a.k=21 then (q=0∧br a p false false false false)
 else if a.k=22 then (q=0∧br a p false false false false)
 else if a.k=23 then (q=0∧br a p false true false false)
 else if a.k=24 then (q=0∧br { a with g:=0 } p false false false false∧fn a.g)
 else if a.k=25 then (q=0∧br a p false false true false∧a.x.size≤4000)
 else if a.k=26 then (q=0∧br a p false false true false∧nm a.x)
 else if a.k=27 then (q=0∧br a p false false false false)
 else if a.k=28 then (q=2∧ex F K 0 2∧br a p false false false false)
 else if a.k=29 then (q=2∧ex F K 0 2∧br a p false false false false)
 else if a.k=30 then (q=1∧ex F K 0 1∧br a p true false false false∧19≤a.o∧a.o≤22)
 else if a.k=31 then (q=2∧ex F K 0 2∧br a p true false false false∧1≤a.o∧a.o≤18)
 else if a.k=32 then (q=2∧ex F K 0 2∧kdk F K 0 ≠ 27∧br a p false false false false)
 else if a.k=33 then (q=1∧ex F K 0 1∧kdk F K 0 ≠ 27∧br a p false false true false∧nm a.x)
 else if a.k=34 then (1≤q∧ex F K 0 q∧kdk F K 0 ≠ 27∧br a p false false false false)
 else if a.k=35 then ((∀ j,j < q→40≤kdk F K j∧kdk F K j≤42)∧br a p false false false false)
 else if a.k=36 then (q=1∧kdk F K 0=1∧br a p true false false true∧nd nm p A 0 200∧(a.o=0∨a.o=1))
 else if a.k=37 then (q=1∧(kdk F K 0=34∨kdk F K 0=27)∧br a p false false false false)
 else if a.k=40 then (q=1∧ex F K 0 1∧br a p false false false false)
 else if a.k=41 then (q=2∧ex F K 0 2∧br a p false false false false)
 else if a.k=42 then (q=1∧ex F K 0 1∧br a p false false true false∧nm a.x)
 else False
theorem shk_1 {nm fl:ByteArray→Prop} {F:Nat→Gv} {a:Fv} {p:Nat} {A:Nat→ByteArray} {q:Nat} {K:Nat→Int} (h:a.k=1):shk nm fl F a p A q K=((∀ j,j < q→1≤kdk F K j∧kdk F K j≤16)∧br a p false false false false):=by
 unfold shk
 rw [if_pos h]
theorem shk_2 {nm fl:ByteArray→Prop} {F:Nat→Gv} {a:Fv} {p:Nat} {A:Nat→ByteArray} {q:Nat} {K:Nat→Int} (h:a.k=2):shk nm fl F a p A q K=(br a p false false false true∧nd nm p A 1 200∧ex F K 0 q):=by
 unfold shk
 rw [if_neg (by omega)]
 rw [if_pos h]
theorem shk_3 {nm fl:ByteArray→Prop} {F:Nat→Gv} {a:Fv} {p:Nat} {A:Nat→ByteArray} {q:Nat} {K:Nat→Int} (h:a.k=3):shk nm fl F a p A q K=(br a p false false false true∧nd nm p A 1 1∧q=1∧ex F K 0 1):=by
 unfold shk
 rw [if_neg (by omega)]
 rw [if_neg (by omega)]
 rw [if_pos h]
theorem shk_4 {nm fl:ByteArray→Prop} {F:Nat→Gv} {a:Fv} {p:Nat} {A:Nat→ByteArray} {q:Nat} {K:Nat→Int} (h:a.k=4):shk nm fl F a p A q K=(br a p false false false true∧nd nm p A 1 1∧q=1∧kdk F K 0=36):=by
 unfold shk
 rw [if_neg (by omega)]
 rw [if_neg (by omega)]
 rw [if_neg (by omega)]
 rw [if_pos h]
theorem shk_5 {nm fl:ByteArray→Prop} {F:Nat→Gv} {a:Fv} {p:Nat} {A:Nat→ByteArray} {q:Nat} {K:Nat→Int} (h:a.k=5):shk nm fl F a p A q K=(br a p false true false false∧1≤a.m∧a.m < (q:Int)∧(∀ j,j < a.m.toNat→kdk F K j=26∨kdk F K j=32∨kdk F K j=33)∧ex F K a.m.toNat q):=by
 unfold shk
 rw [if_neg (by omega)]
 rw [if_neg (by omega)]
 rw [if_neg (by omega)]
 rw [if_neg (by omega)]
 rw [if_pos h]
theorem shk_6 {nm fl:ByteArray→Prop} {F:Nat→Gv} {a:Fv} {p:Nat} {A:Nat→ByteArray} {q:Nat} {K:Nat→Int} (h:a.k=6):shk nm fl F a p A q K=(br a p false false false false∧q=1∧kdk F K 0=34):=by
 unfold shk
 rw [if_neg (by omega)]
 rw [if_neg (by omega)]
 rw [if_neg (by omega)]
 rw [if_neg (by omega)]
 rw [if_neg (by omega)]
 rw [if_pos h]
theorem shk_7 {nm fl:ByteArray→Prop} {F:Nat→Gv} {a:Fv} {p:Nat} {A:Nat→ByteArray} {q:Nat} {K:Nat→Int} (h:a.k=7):shk nm fl F a p A q K=(br a p false false false false∧(q=2∨q=3)∧ex F K 0 1∧kdk F K 1=1∧(q=2∨kdk F K 2=1∨kdk F K 2=7)):=by
 unfold shk
 rw [if_neg (by omega)]
 rw [if_neg (by omega)]
 rw [if_neg (by omega)]
 rw [if_neg (by omega)]
 rw [if_neg (by omega)]
 rw [if_neg (by omega)]
 rw [if_pos h]
theorem shk_8 {nm fl:ByteArray→Prop} {F:Nat→Gv} {a:Fv} {p:Nat} {A:Nat→ByteArray} {q:Nat} {K:Nat→Int} (h:a.k=8):shk nm fl F a p A q K=(br a p false false false false∧q=2∧ex F K 0 1∧kdk F K 1=1):=by
 unfold shk
 rw [if_neg (by omega)]
 rw [if_neg (by omega)]
 rw [if_neg (by omega)]
 rw [if_neg (by omega)]
 rw [if_neg (by omega)]
 rw [if_neg (by omega)]
 rw [if_neg (by omega)]
 rw [if_pos h]
theorem shk_9 {nm fl:ByteArray→Prop} {F:Nat→Gv} {a:Fv} {p:Nat} {A:Nat→ByteArray} {q:Nat} {K:Nat→Int} (h:a.k=9):shk nm fl F a p A q K=(br a p false false false true∧nd nm p A 1 1∧(q=3∨q=4)∧ex F K 0 (q - 1)∧kdk F K (q - 1)=1):=by
 unfold shk
 rw [if_neg (by omega)]
 rw [if_neg (by omega)]
 rw [if_neg (by omega)]
 rw [if_neg (by omega)]
 rw [if_neg (by omega)]
 rw [if_neg (by omega)]
 rw [if_neg (by omega)]
 rw [if_neg (by omega)]
 rw [if_pos h]
theorem shk_10 {nm fl:ByteArray→Prop} {F:Nat→Gv} {a:Fv} {p:Nat} {A:Nat→ByteArray} {q:Nat} {K:Nat→Int} (h:a.k=10):shk nm fl F a p A q K=(br a p false false false true∧nd nm p A 1 200∧q=2∧ex F K 0 1∧kdk F K 1=1):=by
 unfold shk
 rw [if_neg (by omega)]
 rw [if_neg (by omega)]
 rw [if_neg (by omega)]
 rw [if_neg (by omega)]
 rw [if_neg (by omega)]
 rw [if_neg (by omega)]
 rw [if_neg (by omega)]
 rw [if_neg (by omega)]
 rw [if_neg (by omega)]
 rw [if_pos h]
theorem shk_11 {nm fl:ByteArray→Prop} {F:Nat→Gv} {a:Fv} {p:Nat} {A:Nat→ByteArray} {q:Nat} {K:Nat→Int} (h:a.k=11):shk nm fl F a p A q K=(br a p false false false false∧q=0):=by
 unfold shk
 rw [if_neg (by omega)]
 rw [if_neg (by omega)]
 rw [if_neg (by omega)]
 rw [if_neg (by omega)]
 rw [if_neg (by omega)]
 rw [if_neg (by omega)]
 rw [if_neg (by omega)]
 rw [if_neg (by omega)]
 rw [if_neg (by omega)]
 rw [if_neg (by omega)]
 rw [if_pos h]
theorem shk_12 {nm fl:ByteArray→Prop} {F:Nat→Gv} {a:Fv} {p:Nat} {A:Nat→ByteArray} {q:Nat} {K:Nat→Int} (h:a.k=12):shk nm fl F a p A q K=(br a p false false false false∧q=0):=by
 unfold shk
 rw [if_neg (by omega)]
 rw [if_neg (by omega)]
 rw [if_neg (by omega)]
 rw [if_neg (by omega)]
 rw [if_neg (by omega)]
 rw [if_neg (by omega)]
 rw [if_neg (by omega)]
 rw [if_neg (by omega)]
 rw [if_neg (by omega)]
 rw [if_neg (by omega)]
 rw [if_neg (by omega)]
 rw [if_pos h]
theorem shk_13 {nm fl:ByteArray→Prop} {F:Nat→Gv} {a:Fv} {p:Nat} {A:Nat→ByteArray} {q:Nat} {K:Nat→Int} (h:a.k=13):shk nm fl F a p A q K=(br a p false false false false∧ex F K 0 q):=by
 unfold shk
 rw [if_neg (by omega)]
 rw [if_neg (by omega)]
 rw [if_neg (by omega)]
 rw [if_neg (by omega)]
 rw [if_neg (by omega)]
 rw [if_neg (by omega)]
 rw [if_neg (by omega)]
 rw [if_neg (by omega)]
 rw [if_neg (by omega)]
 rw [if_neg (by omega)]
 rw [if_neg (by omega)]
 rw [if_neg (by omega)]
 rw [if_pos h]
theorem shk_14 {nm fl:ByteArray→Prop} {F:Nat→Gv} {a:Fv} {p:Nat} {A:Nat→ByteArray} {q:Nat} {K:Nat→Int} (h:a.k=14):shk nm fl F a p A q K=(br a p false false false true∧nd nm p A 1 2∧q=2∧kdk F K 0=1∧kdk F K 1=1):=by
 unfold shk
 rw [if_neg (by omega)]
 rw [if_neg (by omega)]
 rw [if_neg (by omega)]
 rw [if_neg (by omega)]
 rw [if_neg (by omega)]
 rw [if_neg (by omega)]
 rw [if_neg (by omega)]
 rw [if_neg (by omega)]
 rw [if_neg (by omega)]
 rw [if_neg (by omega)]
 rw [if_neg (by omega)]
 rw [if_neg (by omega)]
 rw [if_neg (by omega)]
 rw [if_pos h]
theorem shk_15 {nm fl:ByteArray→Prop} {F:Nat→Gv} {a:Fv} {p:Nat} {A:Nat→ByteArray} {q:Nat} {K:Nat→Int} (h:a.k=15):shk nm fl F a p A q K=(br a p false false false false∧q=1∧ex F K 0 1):=by
 unfold shk
 rw [if_neg (by omega)]
 rw [if_neg (by omega)]
 rw [if_neg (by omega)]
 rw [if_neg (by omega)]
 rw [if_neg (by omega)]
 rw [if_neg (by omega)]
 rw [if_neg (by omega)]
 rw [if_neg (by omega)]
 rw [if_neg (by omega)]
 rw [if_neg (by omega)]
 rw [if_neg (by omega)]
 rw [if_neg (by omega)]
 rw [if_neg (by omega)]
 rw [if_neg (by omega)]
 rw [if_pos h]
theorem shk_16 {nm fl:ByteArray→Prop} {F:Nat→Gv} {a:Fv} {p:Nat} {A:Nat→ByteArray} {q:Nat} {K:Nat→Int} (h:a.k=16):shk nm fl F a p A q K=(br a p false false false false∧q=1∧kdk F K 0=34):=by
 unfold shk
 rw [if_neg (by omega)]
 rw [if_neg (by omega)]
 rw [if_neg (by omega)]
 rw [if_neg (by omega)]
 rw [if_neg (by omega)]
 rw [if_neg (by omega)]
 rw [if_neg (by omega)]
 rw [if_neg (by omega)]
 rw [if_neg (by omega)]
 rw [if_neg (by omega)]
 rw [if_neg (by omega)]
 rw [if_neg (by omega)]
 rw [if_neg (by omega)]
 rw [if_neg (by omega)]
 rw [if_neg (by omega)]
 rw [if_pos h]
theorem shk_20 {nm fl:ByteArray→Prop} {F:Nat→Gv} {a:Fv} {p:Nat} {A:Nat→ByteArray} {q:Nat} {K:Nat→Int} (h:a.k=20):shk nm fl F a p A q K=(q=0∧br a p false false false false):=by
 unfold shk
 rw [if_neg (by omega)]
 rw [if_neg (by omega)]
 rw [if_neg (by omega)]
 rw [if_neg (by omega)]
 rw [if_neg (by omega)]
 rw [if_neg (by omega)]
 rw [if_neg (by omega)]
 rw [if_neg (by omega)]
 rw [if_neg (by omega)]
 rw [if_neg (by omega)]
 rw [if_neg (by omega)]
 rw [if_neg (by omega)]
 rw [if_neg (by omega)]
 rw [if_neg (by omega)]
 rw [if_neg (by omega)]
 rw [if_neg (by omega)]
 rw [if_pos h]
theorem shk_21 {nm fl:ByteArray→Prop} {F:Nat→Gv} {a:Fv} {p:Nat} {A:Nat→ByteArray} {q:Nat} {K:Nat→Int} (h:a.k=21):shk nm fl F a p A q K=(q=0∧br a p false false false false):=by
 unfold shk
 rw [if_neg (by omega)]
 rw [if_neg (by omega)]
 rw [if_neg (by omega)]
 rw [if_neg (by omega)]
 rw [if_neg (by omega)]
 rw [if_neg (by omega)]
 rw [if_neg (by omega)]
 rw [if_neg (by omega)]
 rw [if_neg (by omega)]
 rw [if_neg (by omega)]
 rw [if_neg (by omega)]
 rw [if_neg (by omega)]
 rw [if_neg (by omega)]
 rw [if_neg (by omega)]
 rw [if_neg (by omega)]
 rw [if_neg (by omega)]
 rw [if_neg (by omega)]
 rw [if_pos h]
theorem shk_22 {nm fl:ByteArray→Prop} {F:Nat→Gv} {a:Fv} {p:Nat} {A:Nat→ByteArray} {q:Nat} {K:Nat→Int} (h:a.k=22):shk nm fl F a p A q K=(q=0∧br a p false false false false):=by
 unfold shk
 rw [if_neg (by omega)]
 rw [if_neg (by omega)]
 rw [if_neg (by omega)]
 rw [if_neg (by omega)]
 rw [if_neg (by omega)]
 rw [if_neg (by omega)]
 rw [if_neg (by omega)]
 rw [if_neg (by omega)]
 rw [if_neg (by omega)]
 rw [if_neg (by omega)]
 rw [if_neg (by omega)]
 rw [if_neg (by omega)]
 rw [if_neg (by omega)]
 rw [if_neg (by omega)]
 rw [if_neg (by omega)]
 rw [if_neg (by omega)]
 rw [if_neg (by omega)]
 rw [if_neg (by omega)]
 rw [if_pos h]
theorem shk_23 {nm fl:ByteArray→Prop} {F:Nat→Gv} {a:Fv} {p:Nat} {A:Nat→ByteArray} {q:Nat} {K:Nat→Int} (h:a.k=23):shk nm fl F a p A q K=(q=0∧br a p false true false false):=by
 unfold shk
 rw [if_neg (by omega)]
 rw [if_neg (by omega)]
 rw [if_neg (by omega)]
 rw [if_neg (by omega)]
 rw [if_neg (by omega)]
 rw [if_neg (by omega)]
 rw [if_neg (by omega)]
 rw [if_neg (by omega)]
 rw [if_neg (by omega)]
 rw [if_neg (by omega)]
 rw [if_neg (by omega)]
 rw [if_neg (by omega)]
 rw [if_neg (by omega)]
 rw [if_neg (by omega)]
 rw [if_neg (by omega)]
 rw [if_neg (by omega)]
 rw [if_neg (by omega)]
 rw [if_neg (by omega)]
 rw [if_neg (by omega)]
 rw [if_pos h]
theorem shk_24 {nm fl:ByteArray→Prop} {F:Nat→Gv} {a:Fv} {p:Nat} {A:Nat→ByteArray} {q:Nat} {K:Nat→Int} (h:a.k=24):shk nm fl F a p A q K=(q=0∧br { a with g:=0 } p false false false false∧fn a.g):=by
 unfold shk
 rw [if_neg (by omega)]
 rw [if_neg (by omega)]
 rw [if_neg (by omega)]
 rw [if_neg (by omega)]
 rw [if_neg (by omega)]
 rw [if_neg (by omega)]
 rw [if_neg (by omega)]
 rw [if_neg (by omega)]
 rw [if_neg (by omega)]
 rw [if_neg (by omega)]
 rw [if_neg (by omega)]
 rw [if_neg (by omega)]
 rw [if_neg (by omega)]
 rw [if_neg (by omega)]
 rw [if_neg (by omega)]
 rw [if_neg (by omega)]
 rw [if_neg (by omega)]
 rw [if_neg (by omega)]
 rw [if_neg (by omega)]
 rw [if_neg (by omega)]
 rw [if_pos h]
theorem shk_25 {nm fl:ByteArray→Prop} {F:Nat→Gv} {a:Fv} {p:Nat} {A:Nat→ByteArray} {q:Nat} {K:Nat→Int} (h:a.k=25):shk nm fl F a p A q K=(q=0∧br a p false false true false∧a.x.size≤4000):=by
 unfold shk
 rw [if_neg (by omega)]
 rw [if_neg (by omega)]
 rw [if_neg (by omega)]
 rw [if_neg (by omega)]
 rw [if_neg (by omega)]
 rw [if_neg (by omega)]
 rw [if_neg (by omega)]
 rw [if_neg (by omega)]
 rw [if_neg (by omega)]
 rw [if_neg (by omega)]
 rw [if_neg (by omega)]
 rw [if_neg (by omega)]
 rw [if_neg (by omega)]
 rw [if_neg (by omega)]
 rw [if_neg (by omega)]
 rw [if_neg (by omega)]
 rw [if_neg (by omega)]
 rw [if_neg (by omega)]
 rw [if_neg (by omega)]
 rw [if_neg (by omega)]
 rw [if_neg (by omega)]
 rw [if_pos h]
theorem shk_26 {nm fl:ByteArray→Prop} {F:Nat→Gv} {a:Fv} {p:Nat} {A:Nat→ByteArray} {q:Nat} {K:Nat→Int} (h:a.k=26):shk nm fl F a p A q K=(q=0∧br a p false false true false∧nm a.x):=by
 unfold shk
 rw [if_neg (by omega)]
 rw [if_neg (by omega)]
 rw [if_neg (by omega)]
 rw [if_neg (by omega)]
 rw [if_neg (by omega)]
 rw [if_neg (by omega)]
 rw [if_neg (by omega)]
 rw [if_neg (by omega)]
 rw [if_neg (by omega)]
 rw [if_neg (by omega)]
 rw [if_neg (by omega)]
 rw [if_neg (by omega)]
 rw [if_neg (by omega)]
 rw [if_neg (by omega)]
 rw [if_neg (by omega)]
 rw [if_neg (by omega)]
 rw [if_neg (by omega)]
 rw [if_neg (by omega)]
 rw [if_neg (by omega)]
 rw [if_neg (by omega)]
 rw [if_neg (by omega)]
 rw [if_neg (by omega)]
 rw [if_pos h]
theorem shk_27 {nm fl:ByteArray→Prop} {F:Nat→Gv} {a:Fv} {p:Nat} {A:Nat→ByteArray} {q:Nat} {K:Nat→Int} (h:a.k=27):shk nm fl F a p A q K=(q=0∧br a p false false false false):=by
 unfold shk
 rw [if_neg (by omega)]
 rw [if_neg (by omega)]
 rw [if_neg (by omega)]
 rw [if_neg (by omega)]
 rw [if_neg (by omega)]
 rw [if_neg (by omega)]
 rw [if_neg (by omega)]
 rw [if_neg (by omega)]
 rw [if_neg (by omega)]
 rw [if_neg (by omega)]
 rw [if_neg (by omega)]
 rw [if_neg (by omega)]
 rw [if_neg (by omega)]
 rw [if_neg (by omega)]
 rw [if_neg (by omega)]
 rw [if_neg (by omega)]
 rw [if_neg (by omega)]
 rw [if_neg (by omega)]
 rw [if_neg (by omega)]
 rw [if_neg (by omega)]
 rw [if_neg (by omega)]
 rw [if_neg (by omega)]
 rw [if_neg (by omega)]
 rw [if_pos h]
theorem shk_28 {nm fl:ByteArray→Prop} {F:Nat→Gv} {a:Fv} {p:Nat} {A:Nat→ByteArray} {q:Nat} {K:Nat→Int} (h:a.k=28):shk nm fl F a p A q K=(q=2∧ex F K 0 2∧br a p false false false false):=by
 unfold shk
 rw [if_neg (by omega)]
 rw [if_neg (by omega)]
 rw [if_neg (by omega)]
 rw [if_neg (by omega)]
 rw [if_neg (by omega)]
 rw [if_neg (by omega)]
 rw [if_neg (by omega)]
 rw [if_neg (by omega)]
 rw [if_neg (by omega)]
 rw [if_neg (by omega)]
 rw [if_neg (by omega)]
 rw [if_neg (by omega)]
 rw [if_neg (by omega)]
 rw [if_neg (by omega)]
 rw [if_neg (by omega)]
 rw [if_neg (by omega)]
 rw [if_neg (by omega)]
 rw [if_neg (by omega)]
 rw [if_neg (by omega)]
 rw [if_neg (by omega)]
 rw [if_neg (by omega)]
 rw [if_neg (by omega)]
 rw [if_neg (by omega)]
 rw [if_neg (by omega)]
 rw [if_pos h]
theorem shk_29 {nm fl:ByteArray→Prop} {F:Nat→Gv} {a:Fv} {p:Nat} {A:Nat→ByteArray} {q:Nat} {K:Nat→Int} (h:a.k=29):shk nm fl F a p A q K=(q=2∧ex F K 0 2∧br a p false false false false):=by
 unfold shk
 rw [if_neg (by omega)]
 rw [if_neg (by omega)]
 rw [if_neg (by omega)]
 rw [if_neg (by omega)]
 rw [if_neg (by omega)]
 rw [if_neg (by omega)]
 rw [if_neg (by omega)]
 rw [if_neg (by omega)]
 rw [if_neg (by omega)]
 rw [if_neg (by omega)]
 rw [if_neg (by omega)]
 rw [if_neg (by omega)]
 rw [if_neg (by omega)]
 rw [if_neg (by omega)]
 rw [if_neg (by omega)]
 rw [if_neg (by omega)]
 rw [if_neg (by omega)]
 rw [if_neg (by omega)]
 rw [if_neg (by omega)]
 rw [if_neg (by omega)]
 rw [if_neg (by omega)]
 rw [if_neg (by omega)]
 rw [if_neg (by omega)]
 rw [if_neg (by omega)]
 rw [if_neg (by omega)]
 rw [if_pos h]
theorem shk_30 {nm fl:ByteArray→Prop} {F:Nat→Gv} {a:Fv} {p:Nat} {A:Nat→ByteArray} {q:Nat} {K:Nat→Int} (h:a.k=30):shk nm fl F a p A q K=(q=1∧ex F K 0 1∧br a p true false false false∧19≤a.o∧a.o≤22):=by
 unfold shk
 rw [if_neg (by omega)]
 rw [if_neg (by omega)]
 rw [if_neg (by omega)]
 rw [if_neg (by omega)]
 rw [if_neg (by omega)]
 rw [if_neg (by omega)]
 rw [if_neg (by omega)]
 rw [if_neg (by omega)]
 rw [if_neg (by omega)]
 rw [if_neg (by omega)]
 rw [if_neg (by omega)]
 rw [if_neg (by omega)]
 rw [if_neg (by omega)]
 rw [if_neg (by omega)]
 rw [if_neg (by omega)]
 rw [if_neg (by omega)]
 rw [if_neg (by omega)]
 rw [if_neg (by omega)]
 rw [if_neg (by omega)]
 rw [if_neg (by omega)]
 rw [if_neg (by omega)]
 rw [if_neg (by omega)]
 rw [if_neg (by omega)]
 rw [if_neg (by omega)]
 rw [if_neg (by omega)]
 rw [if_neg (by omega)]
 rw [if_pos h]
theorem shk_31 {nm fl:ByteArray→Prop} {F:Nat→Gv} {a:Fv} {p:Nat} {A:Nat→ByteArray} {q:Nat} {K:Nat→Int} (h:a.k=31):shk nm fl F a p A q K=(q=2∧ex F K 0 2∧br a p true false false false∧1≤a.o∧a.o≤18):=by
 unfold shk
 rw [if_neg (by omega)]
 rw [if_neg (by omega)]
 rw [if_neg (by omega)]
 rw [if_neg (by omega)]
 rw [if_neg (by omega)]
 rw [if_neg (by omega)]
 rw [if_neg (by omega)]
 rw [if_neg (by omega)]
 rw [if_neg (by omega)]
 rw [if_neg (by omega)]
 rw [if_neg (by omega)]
 rw [if_neg (by omega)]
 rw [if_neg (by omega)]
 rw [if_neg (by omega)]
 rw [if_neg (by omega)]
 rw [if_neg (by omega)]
 rw [if_neg (by omega)]
 rw [if_neg (by omega)]
 rw [if_neg (by omega)]
 rw [if_neg (by omega)]
 rw [if_neg (by omega)]
 rw [if_neg (by omega)]
 rw [if_neg (by omega)]
 rw [if_neg (by omega)]
 rw [if_neg (by omega)]
 rw [if_neg (by omega)]
 rw [if_neg (by omega)]
 rw [if_pos h]
theorem shk_32 {nm fl:ByteArray→Prop} {F:Nat→Gv} {a:Fv} {p:Nat} {A:Nat→ByteArray} {q:Nat} {K:Nat→Int} (h:a.k=32):shk nm fl F a p A q K=(q=2∧ex F K 0 2∧kdk F K 0 ≠ 27∧br a p false false false false):=by
 unfold shk
 rw [if_neg (by omega)]
 rw [if_neg (by omega)]
 rw [if_neg (by omega)]
 rw [if_neg (by omega)]
 rw [if_neg (by omega)]
 rw [if_neg (by omega)]
 rw [if_neg (by omega)]
 rw [if_neg (by omega)]
 rw [if_neg (by omega)]
 rw [if_neg (by omega)]
 rw [if_neg (by omega)]
 rw [if_neg (by omega)]
 rw [if_neg (by omega)]
 rw [if_neg (by omega)]
 rw [if_neg (by omega)]
 rw [if_neg (by omega)]
 rw [if_neg (by omega)]
 rw [if_neg (by omega)]
 rw [if_neg (by omega)]
 rw [if_neg (by omega)]
 rw [if_neg (by omega)]
 rw [if_neg (by omega)]
 rw [if_neg (by omega)]
 rw [if_neg (by omega)]
 rw [if_neg (by omega)]
 rw [if_neg (by omega)]
 rw [if_neg (by omega)]
 rw [if_neg (by omega)]
 rw [if_pos h]
theorem shk_33 {nm fl:ByteArray→Prop} {F:Nat→Gv} {a:Fv} {p:Nat} {A:Nat→ByteArray} {q:Nat} {K:Nat→Int} (h:a.k=33):shk nm fl F a p A q K=(q=1∧ex F K 0 1∧kdk F K 0 ≠ 27∧br a p false false true false∧nm a.x):=by
 unfold shk
 rw [if_neg (by omega)]
 rw [if_neg (by omega)]
 rw [if_neg (by omega)]
 rw [if_neg (by omega)]
 rw [if_neg (by omega)]
 rw [if_neg (by omega)]
 rw [if_neg (by omega)]
 rw [if_neg (by omega)]
 rw [if_neg (by omega)]
 rw [if_neg (by omega)]
 rw [if_neg (by omega)]
 rw [if_neg (by omega)]
 rw [if_neg (by omega)]
 rw [if_neg (by omega)]
 rw [if_neg (by omega)]
 rw [if_neg (by omega)]
 rw [if_neg (by omega)]
 rw [if_neg (by omega)]
 rw [if_neg (by omega)]
 rw [if_neg (by omega)]
 rw [if_neg (by omega)]
 rw [if_neg (by omega)]
 rw [if_neg (by omega)]
 rw [if_neg (by omega)]
 rw [if_neg (by omega)]
 rw [if_neg (by omega)]
 rw [if_neg (by omega)]
 rw [if_neg (by omega)]
 rw [if_neg (by omega)]
 rw [if_pos h]
theorem shk_34 {nm fl:ByteArray→Prop} {F:Nat→Gv} {a:Fv} {p:Nat} {A:Nat→ByteArray} {q:Nat} {K:Nat→Int} (h:a.k=34):shk nm fl F a p A q K=(1≤q∧ex F K 0 q∧kdk F K 0 ≠ 27∧br a p false false false false):=by
 unfold shk
 rw [if_neg (by omega)]
 rw [if_neg (by omega)]
 rw [if_neg (by omega)]
 rw [if_neg (by omega)]
 rw [if_neg (by omega)]
 rw [if_neg (by omega)]
 rw [if_neg (by omega)]
 rw [if_neg (by omega)]
 rw [if_neg (by omega)]
 rw [if_neg (by omega)]
 rw [if_neg (by omega)]
 rw [if_neg (by omega)]
 rw [if_neg (by omega)]
 rw [if_neg (by omega)]
 rw [if_neg (by omega)]
 rw [if_neg (by omega)]
 rw [if_neg (by omega)]
 rw [if_neg (by omega)]
 rw [if_neg (by omega)]
 rw [if_neg (by omega)]
 rw [if_neg (by omega)]
 rw [if_neg (by omega)]
 rw [if_neg (by omega)]
 rw [if_neg (by omega)]
 rw [if_neg (by omega)]
 rw [if_neg (by omega)]
 rw [if_neg (by omega)]
 rw [if_neg (by omega)]
 rw [if_neg (by omega)]
 rw [if_neg (by omega)]
 rw [if_pos h]
theorem shk_35 {nm fl:ByteArray→Prop} {F:Nat→Gv} {a:Fv} {p:Nat} {A:Nat→ByteArray} {q:Nat} {K:Nat→Int} (h:a.k=35):shk nm fl F a p A q K=((∀ j,j < q→40≤kdk F K j∧kdk F K j≤42)∧br a p false false false false):=by
 unfold shk
 rw [if_neg (by omega)]
 rw [if_neg (by omega)]
 rw [if_neg (by omega)]
 rw [if_neg (by omega)]
 rw [if_neg (by omega)]
 rw [if_neg (by omega)]
 rw [if_neg (by omega)]
 rw [if_neg (by omega)]
 rw [if_neg (by omega)]
 rw [if_neg (by omega)]
 rw [if_neg (by omega)]
 rw [if_neg (by omega)]
 rw [if_neg (by omega)]
 rw [if_neg (by omega)]
 rw [if_neg (by omega)]
 rw [if_neg (by omega)]
 rw [if_neg (by omega)]
 rw [if_neg (by omega)]
 rw [if_neg (by omega)]
 rw [if_neg (by omega)]
 rw [if_neg (by omega)]
 rw [if_neg (by omega)]
 rw [if_neg (by omega)]
 rw [if_neg (by omega)]
 rw [if_neg (by omega)]
 rw [if_neg (by omega)]
 rw [if_neg (by omega)]
 rw [if_neg (by omega)]
 rw [if_neg (by omega)]
 rw [if_neg (by omega)]
 rw [if_neg (by omega)]
 rw [if_pos h]
theorem shk_36 {nm fl:ByteArray→Prop} {F:Nat→Gv} {a:Fv} {p:Nat} {A:Nat→ByteArray} {q:Nat} {K:Nat→Int} (h:a.k=36):shk nm fl F a p A q K=(q=1∧kdk F K 0=1∧br a p true false false true∧nd nm p A 0 200∧(a.o=0∨a.o=1)):=by
 unfold shk
 rw [if_neg (by omega)]
 rw [if_neg (by omega)]
 rw [if_neg (by omega)]
 rw [if_neg (by omega)]
 rw [if_neg (by omega)]
 rw [if_neg (by omega)]
 rw [if_neg (by omega)]
 rw [if_neg (by omega)]
 rw [if_neg (by omega)]
 rw [if_neg (by omega)]
 rw [if_neg (by omega)]
 rw [if_neg (by omega)]
 rw [if_neg (by omega)]
 rw [if_neg (by omega)]
 rw [if_neg (by omega)]
 rw [if_neg (by omega)]
 rw [if_neg (by omega)]
 rw [if_neg (by omega)]
 rw [if_neg (by omega)]
 rw [if_neg (by omega)]
 rw [if_neg (by omega)]
 rw [if_neg (by omega)]
 rw [if_neg (by omega)]
 rw [if_neg (by omega)]
 rw [if_neg (by omega)]
 rw [if_neg (by omega)]
 rw [if_neg (by omega)]
 rw [if_neg (by omega)]
 rw [if_neg (by omega)]
 rw [if_neg (by omega)]
 rw [if_neg (by omega)]
 rw [if_neg (by omega)]
 rw [if_pos h]
theorem shk_37 {nm fl:ByteArray→Prop} {F:Nat→Gv} {a:Fv} {p:Nat} {A:Nat→ByteArray} {q:Nat} {K:Nat→Int} (h:a.k=37):shk nm fl F a p A q K=(q=1∧(kdk F K 0=34∨kdk F K 0=27)∧br a p false false false false):=by
 unfold shk
 rw [if_neg (by omega)]
 rw [if_neg (by omega)]
 rw [if_neg (by omega)]
 rw [if_neg (by omega)]
 rw [if_neg (by omega)]
 rw [if_neg (by omega)]
 rw [if_neg (by omega)]
 rw [if_neg (by omega)]
 rw [if_neg (by omega)]
 rw [if_neg (by omega)]
 rw [if_neg (by omega)]
 rw [if_neg (by omega)]
 rw [if_neg (by omega)]
 rw [if_neg (by omega)]
 rw [if_neg (by omega)]
 rw [if_neg (by omega)]
 rw [if_neg (by omega)]
 rw [if_neg (by omega)]
 rw [if_neg (by omega)]
 rw [if_neg (by omega)]
 rw [if_neg (by omega)]
 rw [if_neg (by omega)]
 rw [if_neg (by omega)]
 rw [if_neg (by omega)]
 rw [if_neg (by omega)]
 rw [if_neg (by omega)]
 rw [if_neg (by omega)]
 rw [if_neg (by omega)]
 rw [if_neg (by omega)]
 rw [if_neg (by omega)]
 rw [if_neg (by omega)]
 rw [if_neg (by omega)]
 rw [if_neg (by omega)]
 rw [if_pos h]
theorem shk_40 {nm fl:ByteArray→Prop} {F:Nat→Gv} {a:Fv} {p:Nat} {A:Nat→ByteArray} {q:Nat} {K:Nat→Int} (h:a.k=40):shk nm fl F a p A q K=(q=1∧ex F K 0 1∧br a p false false false false):=by
 unfold shk
 rw [if_neg (by omega)]
 rw [if_neg (by omega)]
 rw [if_neg (by omega)]
 rw [if_neg (by omega)]
 rw [if_neg (by omega)]
 rw [if_neg (by omega)]
 rw [if_neg (by omega)]
 rw [if_neg (by omega)]
 rw [if_neg (by omega)]
 rw [if_neg (by omega)]
 rw [if_neg (by omega)]
 rw [if_neg (by omega)]
 rw [if_neg (by omega)]
 rw [if_neg (by omega)]
 rw [if_neg (by omega)]
 rw [if_neg (by omega)]
 rw [if_neg (by omega)]
 rw [if_neg (by omega)]
 rw [if_neg (by omega)]
 rw [if_neg (by omega)]
 rw [if_neg (by omega)]
 rw [if_neg (by omega)]
 rw [if_neg (by omega)]
 rw [if_neg (by omega)]
 rw [if_neg (by omega)]
 rw [if_neg (by omega)]
 rw [if_neg (by omega)]
 rw [if_neg (by omega)]
 rw [if_neg (by omega)]
 rw [if_neg (by omega)]
 rw [if_neg (by omega)]
 rw [if_neg (by omega)]
 rw [if_neg (by omega)]
 rw [if_neg (by omega)]
 rw [if_pos h]
theorem shk_41 {nm fl:ByteArray→Prop} {F:Nat→Gv} {a:Fv} {p:Nat} {A:Nat→ByteArray} {q:Nat} {K:Nat→Int} (h:a.k=41):shk nm fl F a p A q K=(q=2∧ex F K 0 2∧br a p false false false false):=by
 unfold shk
 rw [if_neg (by omega)]
 rw [if_neg (by omega)]
 rw [if_neg (by omega)]
 rw [if_neg (by omega)]
 rw [if_neg (by omega)]
 rw [if_neg (by omega)]
 rw [if_neg (by omega)]
 rw [if_neg (by omega)]
 rw [if_neg (by omega)]
 rw [if_neg (by omega)]
 rw [if_neg (by omega)]
 rw [if_neg (by omega)]
 rw [if_neg (by omega)]
 rw [if_neg (by omega)]
 rw [if_neg (by omega)]
 rw [if_neg (by omega)]
 rw [if_neg (by omega)]
 rw [if_neg (by omega)]
 rw [if_neg (by omega)]
 rw [if_neg (by omega)]
 rw [if_neg (by omega)]
 rw [if_neg (by omega)]
 rw [if_neg (by omega)]
 rw [if_neg (by omega)]
 rw [if_neg (by omega)]
 rw [if_neg (by omega)]
 rw [if_neg (by omega)]
 rw [if_neg (by omega)]
 rw [if_neg (by omega)]
 rw [if_neg (by omega)]
 rw [if_neg (by omega)]
 rw [if_neg (by omega)]
 rw [if_neg (by omega)]
 rw [if_neg (by omega)]
 rw [if_neg (by omega)]
 rw [if_pos h]
theorem shk_42 {nm fl:ByteArray→Prop} {F:Nat→Gv} {a:Fv} {p:Nat} {A:Nat→ByteArray} {q:Nat} {K:Nat→Int} (h:a.k=42):shk nm fl F a p A q K=(q=1∧ex F K 0 1∧br a p false false true false∧nm a.x):=by
 unfold shk
 rw [if_neg (by omega)]
 rw [if_neg (by omega)]
 rw [if_neg (by omega)]
 rw [if_neg (by omega)]
 rw [if_neg (by omega)]
 rw [if_neg (by omega)]
 rw [if_neg (by omega)]
 rw [if_neg (by omega)]
 rw [if_neg (by omega)]
 rw [if_neg (by omega)]
 rw [if_neg (by omega)]
 rw [if_neg (by omega)]
 rw [if_neg (by omega)]
 rw [if_neg (by omega)]
 rw [if_neg (by omega)]
 rw [if_neg (by omega)]
 rw [if_neg (by omega)]
 rw [if_neg (by omega)]
 rw [if_neg (by omega)]
 rw [if_neg (by omega)]
 rw [if_neg (by omega)]
 rw [if_neg (by omega)]
 rw [if_neg (by omega)]
 rw [if_neg (by omega)]
 rw [if_neg (by omega)]
 rw [if_neg (by omega)]
 rw [if_neg (by omega)]
 rw [if_neg (by omega)]
 rw [if_neg (by omega)]
 rw [if_neg (by omega)]
 rw [if_neg (by omega)]
 rw [if_neg (by omega)]
 rw [if_neg (by omega)]
 rw [if_neg (by omega)]
 rw [if_neg (by omega)]
 rw [if_neg (by omega)]
 rw [if_pos h]
theorem sp_st {nm : ByteArray → Prop} (fl : ByteArray → Prop) {w : World} {v : Value} {n : Nat} {F : Nat → Gv} {vn vk : Value} {p : Nat} {A : Nat → ByteArray} {q : Nat} {K : Nat → Int} (s : Sx nm w v n F vn vk p A q K) (a : Fv) (hga : a.g < 18446744073709551616) (h : 1 ≤ a.k ∧ a.k ≤ 16) :
  Calls Tryz.prog 86 #[.agg #[v],fmv a vn vk] w fun e w'=>e = .returned (.bool (dc (shk nm fl F a p A q K)))∧Below w.heap.size w w':=by
 have hc:a.k=1∨a.k=2∨a.k=3∨a.k=4∨a.k=5∨a.k=6∨a.k=7∨a.k=8∨a.k=9∨a.k=10∨a.k=11∨a.k=12∨a.k=13∨a.k=14∨a.k=15∨a.k=16:=by omega
 rcases hc with h | h | h | h | h | h | h | h | h | h | h | h | h | h | h | h
 ·rw [shk_1 h];exact st_1 s a hga h
 ·rw [shk_2 h];exact st_2 s a hga h
 ·rw [shk_3 h];exact st_3 s a hga h
 ·rw [shk_4 h];exact st_4 s a hga h
 ·rw [shk_5 h];exact st_5 s a hga h
 ·rw [shk_6 h];exact st_6 s a hga h
 ·rw [shk_7 h];exact st_7 s a hga h
 ·rw [shk_8 h];exact st_8 s a hga h
 ·rw [shk_9 h];exact st_9 s a hga h
 ·rw [shk_10 h];exact st_10 s a hga h
 ·rw [shk_11 h];exact st_11 s a hga h
 ·rw [shk_12 h];exact st_12 s a hga h
 ·rw [shk_13 h];exact st_13 s a hga h
 ·rw [shk_14 h];exact st_14 s a hga h
 ·rw [shk_15 h];exact st_15 s a hga h
 ·rw [shk_16 h];exact st_16 s a hga h
theorem xp_other {w : World} {v : Value} {n : Nat} {F : Nat → Gv} {vn vk : Value} {p : Nat} {A : Nat → ByteArray} {q : Nat} {K : Nat → Int} {nm : ByteArray → Prop} (s : Sx nm w v n F vn vk p A q K) (a : Fv) (h : ¬ (20 ≤ a.k ∧ a.k ≤ 37)) (h2 : ¬ (40 ≤ a.k ∧ a.k ≤ 42)) :
  Calls Tryz.prog 87 #[.agg #[v],fmv a vn vk] w fun e w'=>e = .returned (.bool false)∧Below w.heap.size w w':=by
 obtain ⟨pn,cn,rfl,_⟩:=s.rn
 obtain ⟨pk,ck,rfl,_⟩:=s.rk
 obtain ⟨pf,cf,rfl,_⟩:=s.rf
 have hqI:(q:Int)≤1048576:=by have:=s.hq;omega
 clear s
 obtain ⟨k,f,t,l,o,m,g,x⟩:=a
 dsimp only at h h2
 have e20:(k == 20)=false:=bne (by omega)
 have e21:(k == 21)=false:=bne (by omega)
 have e22:(k == 22)=false:=bne (by omega)
 have e23:(k == 23)=false:=bne (by omega)
 have e24:(k == 24)=false:=bne (by omega)
 have e25:(k == 25)=false:=bne (by omega)
 have e26:(k == 26)=false:=bne (by omega)
 have e27:(k == 27)=false:=bne (by omega)
 have e28:(k == 28)=false:=bne (by omega)
 have e29:(k == 29)=false:=bne (by omega)
 have e30:(k == 30)=false:=bne (by omega)
 have e31:(k == 31)=false:=bne (by omega)
 have e32:(k == 32)=false:=bne (by omega)
 have e33:(k == 33)=false:=bne (by omega)
 have e34:(k == 34)=false:=bne (by omega)
 have e35:(k == 35)=false:=bne (by omega)
 have e36:(k == 36)=false:=bne (by omega)
 have e37:(k == 37)=false:=bne (by omega)
 have e40:(k == 40)=false:=bne (by omega)
 have e41:(k == 41)=false:=bne (by omega)
 have e42:(k == 42)=false:=bne (by omega)
 clear h h2
 unfold fmv
 dsimp only
 go_enter Tryz.func87,Tryz.ntmps87
 go_wp2_with fail
 go_ret
 exact ⟨rfl,bel2 _ _ _⟩
theorem sp_xp {nm fl : ByteArray → Prop} {w : World} {v : Value} {n : Nat} {F : Nat → Gv} {vn vk : Value} {p : Nat} {A : Nat → ByteArray} {q : Nat} {K : Nat → Int} (s : Sx nm w v n F vn vk p A q K) (a : Fv) (hga : a.g < 18446744073709551616) (h : ¬ (1 ≤ a.k ∧ a.k ≤ 16)) :
    Calls Tryz.prog 87 #[.agg #[v],fmv a vn vk] w fun e w'=>e = .returned (.bool (dc (shk nm fl F a p A q K)))∧Below w.heap.size w w':=by
  by_cases h1 : 20≤a.k∧a.k≤37
  · have hc:a.k=20∨a.k=21∨a.k=22∨a.k=23∨a.k=24∨a.k=25∨a.k=26∨a.k=27∨a.k=28∨a.k=29∨a.k=30∨a.k=31∨a.k=32∨a.k=33∨a.k=34∨a.k=35∨a.k=36∨a.k=37:=by omega
    rcases hc with h | h | h | h | h | h | h | h | h | h | h | h | h | h | h | h | h | h
    · rw [shk_20 (by assumption)];exact xp_20 s a hga (by assumption)
    · rw [shk_21 (by assumption)];exact xp_21 s a hga (by assumption)
    · rw [shk_22 (by assumption)];exact xp_22 s a hga (by assumption)
    · rw [shk_23 (by assumption)];exact xp_23 s a hga (by assumption)
    · rw [shk_24 (by assumption)];exact xp_24 s a hga (by assumption)
    · rw [shk_25 (by assumption)];exact xp_25 s a hga (by assumption)
    · rw [shk_26 (by assumption)];exact xp_26 s a hga (by assumption)
    · rw [shk_27 (by assumption)];exact xp_27 s a hga (by assumption)
    · rw [shk_28 (by assumption)];exact xp_28 s a hga (by assumption)
    · rw [shk_29 (by assumption)];exact xp_29 s a hga (by assumption)
    · rw [shk_30 (by assumption)];exact xp_30 s a hga (by assumption)
    · rw [shk_31 (by assumption)];exact xp_31 s a hga (by assumption)
    · rw [shk_32 (by assumption)];exact xp_32 s a hga (by assumption)
    · rw [shk_33 (by assumption)];exact xp_33 s a hga (by assumption)
    · rw [shk_34 (by assumption)];exact xp_34 s a hga (by assumption)
    · rw [shk_35 (by assumption)];exact xp_35 s a hga (by assumption)
    · rw [shk_36 (by assumption)];exact xp_36 s a hga (by assumption)
    · rw [shk_37 (by assumption)];exact xp_37 s a hga (by assumption)
  · by_cases h2 : 40≤a.k∧a.k≤42
    · have hc:a.k=40∨a.k=41∨a.k=42:=by omega
      rcases hc with h | h | h
      · rw [shk_40 (by assumption)];exact xp_40 s a hga (by assumption)
      · rw [shk_41 (by assumption)];exact xp_41 s a hga (by assumption)
      · rw [shk_42 (by assumption)];exact xp_42 s a hga (by assumption)
    · have hf : ¬ shk nm fl F a p A q K := by
        unfold shk
        rw [if_neg (by omega)]
        rw [if_neg (by omega)]
        rw [if_neg (by omega)]
        rw [if_neg (by omega)]
        rw [if_neg (by omega)]
        rw [if_neg (by omega)]
        rw [if_neg (by omega)]
        rw [if_neg (by omega)]
        rw [if_neg (by omega)]
        rw [if_neg (by omega)]
        rw [if_neg (by omega)]
        rw [if_neg (by omega)]
        rw [if_neg (by omega)]
        rw [if_neg (by omega)]
        rw [if_neg (by omega)]
        rw [if_neg (by omega)]
        rw [if_neg (by omega)]
        rw [if_neg (by omega)]
        rw [if_neg (by omega)]
        rw [if_neg (by omega)]
        rw [if_neg (by omega)]
        rw [if_neg (by omega)]
        rw [if_neg (by omega)]
        rw [if_neg (by omega)]
        rw [if_neg (by omega)]
        rw [if_neg (by omega)]
        rw [if_neg (by omega)]
        rw [if_neg (by omega)]
        rw [if_neg (by omega)]
        rw [if_neg (by omega)]
        rw [if_neg (by omega)]
        rw [if_neg (by omega)]
        rw [if_neg (by omega)]
        rw [if_neg (by omega)]
        rw [if_neg (by omega)]
        rw [if_neg (by omega)]
        rw [if_neg (by omega)]
        exact fun f=>f
      rw [dc_f hf]
      exact xp_other s a h1 h2
end Go.Proofs.YtomcmnompajnlaaGreatDoor.Fo.Po
