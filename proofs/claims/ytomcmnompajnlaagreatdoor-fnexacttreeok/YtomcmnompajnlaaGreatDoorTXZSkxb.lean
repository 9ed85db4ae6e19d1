import Derived.Test.YtomcmnompajnlaaGreatDoorTXZSkg
set_option maxRecDepth 100000
set_option maxHeartbeats 8000000
namespace Go.Proofs.YtomcmnompajnlaaGreatDoor.Fo.Po
open Go.ChangeShapes Go.WideShapes Go.ChangeAt Go.RowKit
set_option linter.unusedVariables false
theorem xp_30 {nm : ByteArray → Prop} {w : World} {v : Value} {n : Nat} {F : Nat → Gv} {vn vk : Value} {p : Nat} {A : Nat → ByteArray} {q : Nat} {K : Nat → Int} (s : Sx nm w v n F vn vk p A q K) (a : Fv) (hga : a.g < 18446744073709551616) (hk : a.k = 30) :
  Calls Tryz.prog 87 #[.agg #[v],fmv a vn vk] w fun e w'=>e = .returned (.bool (dc (q=1∧ex F K 0 1∧br a p true false false false∧19≤a.o∧a.o≤22)))∧Below w.heap.size w w':=by
 have hs:=s.sy a hga 56 102
 obtain ⟨W2,hW2⟩:∃ W2,W2=(w.alloc (.cells #[v] 56)).alloc (.cells #[.int .i64 a.k,.int .i64 a.f,.int .i64 a.t,.int .i64 a.l,.int .i64 a.o,.int .i64 a.m,.float .f64 a.g,.string a.x,vn,vk] 102):=⟨_,rfl⟩
 rw [← hW2] at hs
 have HBL:Hid (∀ W,Below W2.heap.size W2 W→Below w.heap.size w W):=(fun W hb=>by rw [hW2] at hb;exact (bel2 w _ _).trans (hb.mono (bel2 w _ _).size):∀ W,_)
 have HSY:Hid (Sy nm W2 w.heap.size v n F a vn vk p A q K):=hs
 have hqI:(q:Int)≤1048576:=by have:=s.hq;omega
 obtain ⟨pn,cn,rfl,_⟩:=s.rn
 obtain ⟨pk,ck,rfl,_⟩:=s.rk
 obtain ⟨pf,cf,rfl,_⟩:=s.rf
 have HSQ:Hid (q≤1048576):=s.hq
 obtain ⟨R,hR⟩:∃ R,R=dc (q=1∧ex F K 0 1∧br a p true false false false∧19≤a.o∧a.o≤22):=⟨_,rfl⟩
 have HR:Hid (R=dc (q=1∧ex F K 0 1∧br a p true false false false∧19≤a.o∧a.o≤22)):=hR
 rw [← hR]
 clear hs s hR hga
 obtain ⟨k,f,t,l,o,m,g,x⟩:=a
 dsimp only at hk
 subst hk
 by_cases hq0:q=1
 ·subst hq0
  go_enter Tryz.func87,Tryz.ntmps87
  unfold fmv
  dsimp only at hW2
  go_wp2_with fail
  rw [← hW2]
  clear hW2
  have B0:Below W2.heap.size W2 W2:=Below.refl _ _
  obtain ⟨c0,c1,c2,c3,c4,c5,c6,c7,c8,c9⟩:=(show Sy nm W2 w.heap.size _ n F _ _ _ p A _ K from HSY).bx
  have ct:=(show Sy nm W2 w.heap.size _ n F _ _ _ p A _ K from HSY).ct
  dsimp only at c0 c1 c2 c3 c4 c5 c6 c7
  go_wp2_with fail
  refine ((show Sy nm W2 w.heap.size _ n F _ _ _ p A _ K from HSY).exprs _ _ 0 1 rfl (by first | rfl | omega) (by omega) (by omega) _ B0).mono ?_
  rintro e w1 ⟨rfl,B1⟩
  clear c0 c1 c2 c3 c4 c5 c6 c7 c8 c9 ct
  obtain ⟨c0,c1,c2,c3,c4,c5,c6,c7,c8,c9⟩:=(show Sy nm W2 w.heap.size _ n F _ _ _ p A _ K from HSY).bx.below B1
  have ct:=(B1.cell (p:=⟨w.heap.size,0,none⟩) (lt_of_cell (show Sy nm W2 w.heap.size _ n F _ _ _ p A _ K from HSY).ct)).trans (show Sy nm W2 w.heap.size _ n F _ _ _ p A _ K from HSY).ct
  dsimp only at c0 c1 c2 c3 c4 c5 c6 c7
  by_cases h1:ex F K 0 1
  ·rw [dc_t h1]
   have HH1:Hid (ex F K 0 1):=h1
   clear h1
   go_wp2_with fail
   refine ((show Sy nm W2 w.heap.size _ n F _ _ _ p A _ K from HSY).bare true false false false _ B1).mono ?_
   rintro e w2 ⟨rfl,B2⟩
   clear c0 c1 c2 c3 c4 c5 c6 c7 c8 c9 ct
   obtain ⟨c0,c1,c2,c3,c4,c5,c6,c7,c8,c9⟩:=(show Sy nm W2 w.heap.size _ n F _ _ _ p A _ K from HSY).bx.below B2
   have ct:=(B2.cell (p:=⟨w.heap.size,0,none⟩) (lt_of_cell (show Sy nm W2 w.heap.size _ n F _ _ _ p A _ K from HSY).ct)).trans (show Sy nm W2 w.heap.size _ n F _ _ _ p A _ K from HSY).ct
   dsimp only at c0 c1 c2 c3 c4 c5 c6 c7
   by_cases h2:br ⟨30,f,t,l,o,m,g,x⟩ p true false false false
   ·rw [dc_t h2]
    have HH2:Hid (br ⟨30,f,t,l,o,m,g,x⟩ p true false false false):=h2
    clear h2
    by_cases h3 : 19≤o
    ·have ft3:=h3
     have HH3:Hid (19≤o):=h3
     by_cases h4:o≤22
     ·have ft4:=h4
      have HH4:Hid (o≤22):=h4
      go_wp2_with fail
      go_ret
      exact ⟨by rw [show R = _ from HR,dc_t ⟨(by first | rfl | trivial),HH1,HH2,HH3,HH4⟩];first | rfl | (simp [*];done),(show ∀ W,Below W2.heap.size W2 W→Below w.heap.size w W from HBL) _ B2⟩
     ·have ft4:=h4
      have HN9:Hid (Nt (o≤22)):=h4
      go_wp2_with fail
      go_ret
      exact ⟨by rw [show R = _ from HR,dc_f (fun g=>HN9 g.2.2.2.2)];first | rfl | (simp [*];done),(show ∀ W,Below W2.heap.size W2 W→Below w.heap.size w W from HBL) _ B2⟩
    ·have ft3:=h3
     have HN9:Hid (Nt (19≤o)):=h3
     go_wp2_with fail
     go_ret
     exact ⟨by rw [show R = _ from HR,dc_f (fun g=>HN9 g.2.2.2.1)];first | rfl | (simp [*];done),(show ∀ W,Below W2.heap.size W2 W→Below w.heap.size w W from HBL) _ B2⟩
   ·rw [dc_f h2]
    have HN9:Hid (Nt (br ⟨30,f,t,l,o,m,g,x⟩ p true false false false)):=h2
    clear h2
    go_wp2_with fail
    go_ret
    exact ⟨by rw [show R = _ from HR,dc_f (fun g=>HN9 g.2.2.1)];first | rfl | (simp [*];done),(show ∀ W,Below W2.heap.size W2 W→Below w.heap.size w W from HBL) _ B2⟩
  ·rw [dc_f h1]
   have HN9:Hid (Nt (ex F K 0 1)):=h1
   clear h1
   go_wp2_with fail
   go_ret
   exact ⟨by rw [show R = _ from HR,dc_f (fun g=>HN9 g.2.1)];first | rfl | (simp [*];done),(show ∀ W,Below W2.heap.size W2 W→Below w.heap.size w W from HBL) _ B1⟩
 ·have e0:((q:Int) == 1)=false:=bne (by omega)
  have HN9:Hid (Nt (q=1)):=hq0
  clear hq0
  go_enter Tryz.func87,Tryz.ntmps87
  unfold fmv
  dsimp only at hW2
  go_wp2_with fail
  go_ret
  exact ⟨by rw [show R = _ from HR,dc_f (fun g=>HN9 g.1)];rfl,bel2 _ _ _⟩
theorem xp_31 {nm : ByteArray → Prop} {w : World} {v : Value} {n : Nat} {F : Nat → Gv} {vn vk : Value} {p : Nat} {A : Nat → ByteArray} {q : Nat} {K : Nat → Int} (s : Sx nm w v n F vn vk p A q K) (a : Fv) (hga : a.g < 18446744073709551616) (hk : a.k = 31) :
  Calls Tryz.prog 87 #[.agg #[v],fmv a vn vk] w fun e w'=>e = .returned (.bool (dc (q=2∧ex F K 0 2∧br a p true false false false∧1≤a.o∧a.o≤18)))∧Below w.heap.size w w':=by
 have hs:=s.sy a hga 56 102
 obtain ⟨W2,hW2⟩:∃ W2,W2=(w.alloc (.cells #[v] 56)).alloc (.cells #[.int .i64 a.k,.int .i64 a.f,.int .i64 a.t,.int .i64 a.l,.int .i64 a.o,.int .i64 a.m,.float .f64 a.g,.string a.x,vn,vk] 102):=⟨_,rfl⟩
 rw [← hW2] at hs
 have HBL:Hid (∀ W,Below W2.heap.size W2 W→Below w.heap.size w W):=(fun W hb=>by rw [hW2] at hb;exact (bel2 w _ _).trans (hb.mono (bel2 w _ _).size):∀ W,_)
 have HSY:Hid (Sy nm W2 w.heap.size v n F a vn vk p A q K):=hs
 have hqI:(q:Int)≤1048576:=by have:=s.hq;omega
 obtain ⟨pn,cn,rfl,_⟩:=s.rn
 obtain ⟨pk,ck,rfl,_⟩:=s.rk
 obtain ⟨pf,cf,rfl,_⟩:=s.rf
 have HSQ:Hid (q≤1048576):=s.hq
 obtain ⟨R,hR⟩:∃ R,R=dc (q=2∧ex F K 0 2∧br a p true false false false∧1≤a.o∧a.o≤18):=⟨_,rfl⟩
 have HR:Hid (R=dc (q=2∧ex F K 0 2∧br a p true false false false∧1≤a.o∧a.o≤18)):=hR
 rw [← hR]
 clear hs s hR hga
 obtain ⟨k,f,t,l,o,m,g,x⟩:=a
 dsimp only at hk
 subst hk
 by_cases hq0:q=2
 ·subst hq0
  go_enter Tryz.func87,Tryz.ntmps87
  unfold fmv
  dsimp only at hW2
  go_wp2_with fail
  rw [← hW2]
  clear hW2
  have B0:Below W2.heap.size W2 W2:=Below.refl _ _
  obtain ⟨c0,c1,c2,c3,c4,c5,c6,c7,c8,c9⟩:=(show Sy nm W2 w.heap.size _ n F _ _ _ p A _ K from HSY).bx
  have ct:=(show Sy nm W2 w.heap.size _ n F _ _ _ p A _ K from HSY).ct
  dsimp only at c0 c1 c2 c3 c4 c5 c6 c7
  go_wp2_with fail
  refine ((show Sy nm W2 w.heap.size _ n F _ _ _ p A _ K from HSY).exprs _ _ 0 2 rfl (by first | rfl | omega) (by omega) (by omega) _ B0).mono ?_
  rintro e w1 ⟨rfl,B1⟩
  clear c0 c1 c2 c3 c4 c5 c6 c7 c8 c9 ct
  obtain ⟨c0,c1,c2,c3,c4,c5,c6,c7,c8,c9⟩:=(show Sy nm W2 w.heap.size _ n F _ _ _ p A _ K from HSY).bx.below B1
  have ct:=(B1.cell (p:=⟨w.heap.size,0,none⟩) (lt_of_cell (show Sy nm W2 w.heap.size _ n F _ _ _ p A _ K from HSY).ct)).trans (show Sy nm W2 w.heap.size _ n F _ _ _ p A _ K from HSY).ct
  dsimp only at c0 c1 c2 c3 c4 c5 c6 c7
  by_cases h1:ex F K 0 2
  ·rw [dc_t h1]
   have HH1:Hid (ex F K 0 2):=h1
   clear h1
   go_wp2_with fail
   refine ((show Sy nm W2 w.heap.size _ n F _ _ _ p A _ K from HSY).bare true false false false _ B1).mono ?_
   rintro e w2 ⟨rfl,B2⟩
   clear c0 c1 c2 c3 c4 c5 c6 c7 c8 c9 ct
   obtain ⟨c0,c1,c2,c3,c4,c5,c6,c7,c8,c9⟩:=(show Sy nm W2 w.heap.size _ n F _ _ _ p A _ K from HSY).bx.below B2
   have ct:=(B2.cell (p:=⟨w.heap.size,0,none⟩) (lt_of_cell (show Sy nm W2 w.heap.size _ n F _ _ _ p A _ K from HSY).ct)).trans (show Sy nm W2 w.heap.size _ n F _ _ _ p A _ K from HSY).ct
   dsimp only at c0 c1 c2 c3 c4 c5 c6 c7
   by_cases h2:br ⟨31,f,t,l,o,m,g,x⟩ p true false false false
   ·rw [dc_t h2]
    have HH2:Hid (br ⟨31,f,t,l,o,m,g,x⟩ p true false false false):=h2
    clear h2
    by_cases h3 : 1≤o
    ·have ft3:=h3
     have HH3:Hid (1≤o):=h3
     by_cases h4:o≤18
     ·have ft4:=h4
      have HH4:Hid (o≤18):=h4
      go_wp2_with fail
      go_ret
      exact ⟨by rw [show R = _ from HR,dc_t ⟨(by first | rfl | trivial),HH1,HH2,HH3,HH4⟩];first | rfl | (simp [*];done),(show ∀ W,Below W2.heap.size W2 W→Below w.heap.size w W from HBL) _ B2⟩
     ·have ft4:=h4
      have HN9:Hid (Nt (o≤18)):=h4
      go_wp2_with fail
      go_ret
      exact ⟨by rw [show R = _ from HR,dc_f (fun g=>HN9 g.2.2.2.2)];first | rfl | (simp [*];done),(show ∀ W,Below W2.heap.size W2 W→Below w.heap.size w W from HBL) _ B2⟩
    ·have ft3:=h3
     have HN9:Hid (Nt (1≤o)):=h3
     go_wp2_with fail
     go_ret
     exact ⟨by rw [show R = _ from HR,dc_f (fun g=>HN9 g.2.2.2.1)];first | rfl | (simp [*];done),(show ∀ W,Below W2.heap.size W2 W→Below w.heap.size w W from HBL) _ B2⟩
   ·rw [dc_f h2]
    have HN9:Hid (Nt (br ⟨31,f,t,l,o,m,g,x⟩ p true false false false)):=h2
    clear h2
    go_wp2_with fail
    go_ret
    exact ⟨by rw [show R = _ from HR,dc_f (fun g=>HN9 g.2.2.1)];first | rfl | (simp [*];done),(show ∀ W,Below W2.heap.size W2 W→Below w.heap.size w W from HBL) _ B2⟩
  ·rw [dc_f h1]
   have HN9:Hid (Nt (ex F K 0 2)):=h1
   clear h1
   go_wp2_with fail
   go_ret
   exact ⟨by rw [show R = _ from HR,dc_f (fun g=>HN9 g.2.1)];first | rfl | (simp [*];done),(show ∀ W,Below W2.heap.size W2 W→Below w.heap.size w W from HBL) _ B1⟩
 ·have e0:((q:Int) == 2)=false:=bne (by omega)
  have HN9:Hid (Nt (q=2)):=hq0
  clear hq0
  go_enter Tryz.func87,Tryz.ntmps87
  unfold fmv
  dsimp only at hW2
  go_wp2_with fail
  go_ret
  exact ⟨by rw [show R = _ from HR,dc_f (fun g=>HN9 g.1)];rfl,bel2 _ _ _⟩
theorem xp_36 {nm : ByteArray → Prop} {w : World} {v : Value} {n : Nat} {F : Nat → Gv} {vn vk : Value} {p : Nat} {A : Nat → ByteArray} {q : Nat} {K : Nat → Int} (s : Sx nm w v n F vn vk p A q K) (a : Fv) (hga : a.g < 18446744073709551616) (hk : a.k = 36) :
  Calls Tryz.prog 87 #[.agg #[v],fmv a vn vk] w fun e w'=>e = .returned (.bool (dc (q=1∧kdk F K 0=1∧br a p true false false true∧nd nm p A 0 200∧(a.o=0∨a.o=1))))∧Below w.heap.size w w':=by
 have hs:=s.sy a hga 56 102
 obtain ⟨W2,hW2⟩:∃ W2,W2=(w.alloc (.cells #[v] 56)).alloc (.cells #[.int .i64 a.k,.int .i64 a.f,.int .i64 a.t,.int .i64 a.l,.int .i64 a.o,.int .i64 a.m,.float .f64 a.g,.string a.x,vn,vk] 102):=⟨_,rfl⟩
 rw [← hW2] at hs
 have HBL:Hid (∀ W,Below W2.heap.size W2 W→Below w.heap.size w W):=(fun W hb=>by rw [hW2] at hb;exact (bel2 w _ _).trans (hb.mono (bel2 w _ _).size):∀ W,_)
 have HSY:Hid (Sy nm W2 w.heap.size v n F a vn vk p A q K):=hs
 have hqI:(q:Int)≤1048576:=by have:=s.hq;omega
 obtain ⟨pn,cn,rfl,_⟩:=s.rn
 obtain ⟨pk,ck,rfl,_⟩:=s.rk
 obtain ⟨pf,cf,rfl,_⟩:=s.rf
 have HSQ:Hid (q≤1048576):=s.hq
 obtain ⟨R,hR⟩:∃ R,R=dc (q=1∧kdk F K 0=1∧br a p true false false true∧nd nm p A 0 200∧(a.o=0∨a.o=1)):=⟨_,rfl⟩
 have HR:Hid (R=dc (q=1∧kdk F K 0=1∧br a p true false false true∧nd nm p A 0 200∧(a.o=0∨a.o=1))):=hR
 rw [← hR]
 clear hs s hR hga
 obtain ⟨k,f,t,l,o,m,g,x⟩:=a
 dsimp only at hk
 subst hk
 by_cases hq0:q=1
 ·subst hq0
  go_enter Tryz.func87,Tryz.ntmps87
  unfold fmv
  dsimp only at hW2
  go_wp2_with fail
  rw [← hW2]
  clear hW2
  have B0:Below W2.heap.size W2 W2:=Below.refl _ _
  obtain ⟨c0,c1,c2,c3,c4,c5,c6,c7,c8,c9⟩:=(show Sy nm W2 w.heap.size _ n F _ _ _ p A _ K from HSY).bx
  have ct:=(show Sy nm W2 w.heap.size _ n F _ _ _ p A _ K from HSY).ct
  dsimp only at c0 c1 c2 c3 c4 c5 c6 c7
  go_wp2_with fail
  refine ((show Sy nm W2 w.heap.size _ n F _ _ _ p A _ K from HSY).kid _ 0 (by first | rfl | omega) (by first | omega | (have:=(show 1≤q from HQG);omega)) _ B0).mono ?_
  rintro e w1 ⟨rfl,B1⟩
  clear c0 c1 c2 c3 c4 c5 c6 c7 c8 c9 ct
  obtain ⟨c0,c1,c2,c3,c4,c5,c6,c7,c8,c9⟩:=(show Sy nm W2 w.heap.size _ n F _ _ _ p A _ K from HSY).bx.below B1
  have ct:=(B1.cell (p:=⟨w.heap.size,0,none⟩) (lt_of_cell (show Sy nm W2 w.heap.size _ n F _ _ _ p A _ K from HSY).ct)).trans (show Sy nm W2 w.heap.size _ n F _ _ _ p A _ K from HSY).ct
  dsimp only at c0 c1 c2 c3 c4 c5 c6 c7
  by_cases h1:kdk F K 0=1
  ·have ek1:=beq1 h1
   have HH1:Hid (kdk F K 0=1):=h1
   clear h1
   go_wp2_with fail
   refine ((show Sy nm W2 w.heap.size _ n F _ _ _ p A _ K from HSY).bare true false false true _ B1).mono ?_
   rintro e w2 ⟨rfl,B2⟩
   clear c0 c1 c2 c3 c4 c5 c6 c7 c8 c9 ct
   obtain ⟨c0,c1,c2,c3,c4,c5,c6,c7,c8,c9⟩:=(show Sy nm W2 w.heap.size _ n F _ _ _ p A _ K from HSY).bx.below B2
   have ct:=(B2.cell (p:=⟨w.heap.size,0,none⟩) (lt_of_cell (show Sy nm W2 w.heap.size _ n F _ _ _ p A _ K from HSY).ct)).trans (show Sy nm W2 w.heap.size _ n F _ _ _ p A _ K from HSY).ct
   dsimp only at c0 c1 c2 c3 c4 c5 c6 c7
   by_cases h2:br ⟨36,f,t,l,o,m,g,x⟩ p true false false true
   ·rw [dc_t h2]
    have HH2:Hid (br ⟨36,f,t,l,o,m,g,x⟩ p true false false true):=h2
    clear h2
    go_wp2_with fail
    refine ((show Sy nm W2 w.heap.size _ n F _ _ _ p A _ K from HSY).named 0 200 (by omega) (by omega) _ B2).mono ?_
    rintro e w3 ⟨rfl,B3⟩
    clear c0 c1 c2 c3 c4 c5 c6 c7 c8 c9 ct
    obtain ⟨c0,c1,c2,c3,c4,c5,c6,c7,c8,c9⟩:=(show Sy nm W2 w.heap.size _ n F _ _ _ p A _ K from HSY).bx.below B3
    have ct:=(B3.cell (p:=⟨w.heap.size,0,none⟩) (lt_of_cell (show Sy nm W2 w.heap.size _ n F _ _ _ p A _ K from HSY).ct)).trans (show Sy nm W2 w.heap.size _ n F _ _ _ p A _ K from HSY).ct
    dsimp only at c0 c1 c2 c3 c4 c5 c6 c7
    by_cases h3:nd nm p A 0 200
    ·rw [dc_t h3]
     have HH3:Hid (nd nm p A 0 200):=h3
     clear h3
     by_cases h40:o=0
     ·have ft40:=beq1 h40
      have HH4:Hid (o=0∨o=1):=(by omega:o=0∨o=1)
      clear h40
      go_wp2_with fail
      go_ret
      exact ⟨by rw [show R = _ from HR,dc_t ⟨(by first | rfl | trivial),HH1,HH2,HH3,HH4⟩];first | rfl | (simp [*];done),(show ∀ W,Below W2.heap.size W2 W→Below w.heap.size w W from HBL) _ B3⟩
     ·have ft40:=bne h40
      by_cases h41:o=1
      ·have ft41:=beq1 h41
       have HH4:Hid (o=0∨o=1):=(by omega:o=0∨o=1)
       clear h41 h40
       go_wp2_with fail
       go_ret
       exact ⟨by rw [show R = _ from HR,dc_t ⟨(by first | rfl | trivial),HH1,HH2,HH3,HH4⟩];first | rfl | (simp [*];done),(show ∀ W,Below W2.heap.size W2 W→Below w.heap.size w W from HBL) _ B3⟩
      ·have ft41:=bne h41
       have HN9:Hid (Nt (o=0∨o=1)):=(by omega:¬ (o=0∨o=1))
       clear h40 h41
       go_wp2_with fail
       go_ret
       exact ⟨by rw [show R = _ from HR,dc_f (fun g=>HN9 g.2.2.2.2)];first | rfl | (simp [*];done),(show ∀ W,Below W2.heap.size W2 W→Below w.heap.size w W from HBL) _ B3⟩
    ·rw [dc_f h3]
     have HN9:Hid (Nt (nd nm p A 0 200)):=h3
     clear h3
     go_wp2_with fail
     go_ret
     exact ⟨by rw [show R = _ from HR,dc_f (fun g=>HN9 g.2.2.2.1)];first | rfl | (simp [*];done),(show ∀ W,Below W2.heap.size W2 W→Below w.heap.size w W from HBL) _ B3⟩
   ·rw [dc_f h2]
    have HN9:Hid (Nt (br ⟨36,f,t,l,o,m,g,x⟩ p true false false true)):=h2
    clear h2
    go_wp2_with fail
    go_ret
    exact ⟨by rw [show R = _ from HR,dc_f (fun g=>HN9 g.2.2.1)];first | rfl | (simp [*];done),(show ∀ W,Below W2.heap.size W2 W→Below w.heap.size w W from HBL) _ B2⟩
  ·have ek1:=bne h1
   have HN9:Hid (Nt (kdk F K 0=1)):=h1
   clear h1
   go_wp2_with fail
   go_ret
   exact ⟨by rw [show R = _ from HR,dc_f (fun g=>HN9 g.2.1)];first | rfl | (simp [*];done),(show ∀ W,Below W2.heap.size W2 W→Below w.heap.size w W from HBL) _ B1⟩
 ·have e0:((q:Int) == 1)=false:=bne (by omega)
  have HN9:Hid (Nt (q=1)):=hq0
  clear hq0
  go_enter Tryz.func87,Tryz.ntmps87
  unfold fmv
  dsimp only at hW2
  go_wp2_with fail
  go_ret
  exact ⟨by rw [show R = _ from HR,dc_f (fun g=>HN9 g.1)];rfl,bel2 _ _ _⟩
theorem xp_37 {nm : ByteArray → Prop} {w : World} {v : Value} {n : Nat} {F : Nat → Gv} {vn vk : Value} {p : Nat} {A : Nat → ByteArray} {q : Nat} {K : Nat → Int} (s : Sx nm w v n F vn vk p A q K) (a : Fv) (hga : a.g < 18446744073709551616) (hk : a.k = 37) :
  Calls Tryz.prog 87 #[.agg #[v],fmv a vn vk] w fun e w'=>e = .returned (.bool (dc (q=1∧(kdk F K 0=34∨kdk F K 0=27)∧br a p false false false false)))∧Below w.heap.size w w':=by
 have hs:=s.sy a hga 56 102
 obtain ⟨W2,hW2⟩:∃ W2,W2=(w.alloc (.cells #[v] 56)).alloc (.cells #[.int .i64 a.k,.int .i64 a.f,.int .i64 a.t,.int .i64 a.l,.int .i64 a.o,.int .i64 a.m,.float .f64 a.g,.string a.x,vn,vk] 102):=⟨_,rfl⟩
 rw [← hW2] at hs
 have HBL:Hid (∀ W,Below W2.heap.size W2 W→Below w.heap.size w W):=(fun W hb=>by rw [hW2] at hb;exact (bel2 w _ _).trans (hb.mono (bel2 w _ _).size):∀ W,_)
 have HSY:Hid (Sy nm W2 w.heap.size v n F a vn vk p A q K):=hs
 have hqI:(q:Int)≤1048576:=by have:=s.hq;omega
 obtain ⟨pn,cn,rfl,_⟩:=s.rn
 obtain ⟨pk,ck,rfl,_⟩:=s.rk
 obtain ⟨pf,cf,rfl,_⟩:=s.rf
 have HSQ:Hid (q≤1048576):=s.hq
 obtain ⟨R,hR⟩:∃ R,R=dc (q=1∧(kdk F K 0=34∨kdk F K 0=27)∧br a p false false false false):=⟨_,rfl⟩
 have HR:Hid (R=dc (q=1∧(kdk F K 0=34∨kdk F K 0=27)∧br a p false false false false)):=hR
 rw [← hR]
 clear hs s hR hga
 obtain ⟨k,f,t,l,o,m,g,x⟩:=a
 dsimp only at hk
 subst hk
 by_cases hq0:q=1
 ·subst hq0
  go_enter Tryz.func87,Tryz.ntmps87
  unfold fmv
  dsimp only at hW2
  go_wp2_with fail
  rw [← hW2]
  clear hW2
  have B0:Below W2.heap.size W2 W2:=Below.refl _ _
  obtain ⟨c0,c1,c2,c3,c4,c5,c6,c7,c8,c9⟩:=(show Sy nm W2 w.heap.size _ n F _ _ _ p A _ K from HSY).bx
  have ct:=(show Sy nm W2 w.heap.size _ n F _ _ _ p A _ K from HSY).ct
  dsimp only at c0 c1 c2 c3 c4 c5 c6 c7
  go_wp2_with fail
  refine ((show Sy nm W2 w.heap.size _ n F _ _ _ p A _ K from HSY).kid _ 0 (by first | rfl | omega) (by omega) _ B0).mono ?_
  rintro e w1 ⟨rfl,B1⟩
  clear c0 c1 c2 c3 c4 c5 c6 c7 c8 c9 ct
  obtain ⟨c0,c1,c2,c3,c4,c5,c6,c7,c8,c9⟩:=(show Sy nm W2 w.heap.size _ n F _ _ _ p A _ K from HSY).bx.below B1
  have ct:=(B1.cell (p:=⟨w.heap.size,0,none⟩) (lt_of_cell (show Sy nm W2 w.heap.size _ n F _ _ _ p A _ K from HSY).ct)).trans (show Sy nm W2 w.heap.size _ n F _ _ _ p A _ K from HSY).ct
  dsimp only at c0 c1 c2 c3 c4 c5 c6 c7
  by_cases h10:kdk F K 0=34
  ·have ek10:=beq1 h10
   have HH1:Hid ((kdk F K 0=34∨kdk F K 0=27)):=Or.inl h10
   clear h10
   go_wp2_with fail
   refine ((show Sy nm W2 w.heap.size _ n F _ _ _ p A _ K from HSY).bare false false false false _ B1).mono ?_
   rintro e w2 ⟨rfl,B2⟩
   clear c0 c1 c2 c3 c4 c5 c6 c7 c8 c9 ct
   obtain ⟨c0,c1,c2,c3,c4,c5,c6,c7,c8,c9⟩:=(show Sy nm W2 w.heap.size _ n F _ _ _ p A _ K from HSY).bx.below B2
   have ct:=(B2.cell (p:=⟨w.heap.size,0,none⟩) (lt_of_cell (show Sy nm W2 w.heap.size _ n F _ _ _ p A _ K from HSY).ct)).trans (show Sy nm W2 w.heap.size _ n F _ _ _ p A _ K from HSY).ct
   dsimp only at c0 c1 c2 c3 c4 c5 c6 c7
   by_cases h2:br ⟨37,f,t,l,o,m,g,x⟩ p false false false false
   ·rw [dc_t h2]
    have HH2:Hid (br ⟨37,f,t,l,o,m,g,x⟩ p false false false false):=h2
    clear h2
    go_wp2_with fail
    go_ret
    exact ⟨by rw [show R = _ from HR,dc_t ⟨(by first | rfl | trivial),HH1,HH2⟩];first | rfl | (simp [*];done),(show ∀ W,Below W2.heap.size W2 W→Below w.heap.size w W from HBL) _ B2⟩
   ·rw [dc_f h2]
    have HN9:Hid (Nt (br ⟨37,f,t,l,o,m,g,x⟩ p false false false false)):=h2
    clear h2
    go_wp2_with fail
    go_ret
    exact ⟨by rw [show R = _ from HR,dc_f (fun g=>HN9 g.2.2)];first | rfl | (simp [*];done),(show ∀ W,Below W2.heap.size W2 W→Below w.heap.size w W from HBL) _ B2⟩
  ·have ek10:=bne h10
   go_wp2_with fail
   refine ((show Sy nm W2 w.heap.size _ n F _ _ _ p A _ K from HSY).kid _ 0 (by first | rfl | omega) (by omega) _ B1).mono ?_
   rintro e w2 ⟨rfl,B2⟩
   clear c0 c1 c2 c3 c4 c5 c6 c7 c8 c9 ct
   obtain ⟨c0,c1,c2,c3,c4,c5,c6,c7,c8,c9⟩:=(show Sy nm W2 w.heap.size _ n F _ _ _ p A _ K from HSY).bx.below B2
   have ct:=(B2.cell (p:=⟨w.heap.size,0,none⟩) (lt_of_cell (show Sy nm W2 w.heap.size _ n F _ _ _ p A _ K from HSY).ct)).trans (show Sy nm W2 w.heap.size _ n F _ _ _ p A _ K from HSY).ct
   dsimp only at c0 c1 c2 c3 c4 c5 c6 c7
   by_cases h11:kdk F K 0=27
   ·have ek11:=beq1 h11
    have HH1:Hid ((kdk F K 0=34∨kdk F K 0=27)):=Or.inr h11
    clear h11 h10
    go_wp2_with fail
    refine ((show Sy nm W2 w.heap.size _ n F _ _ _ p A _ K from HSY).bare false false false false _ B2).mono ?_
    rintro e w3 ⟨rfl,B3⟩
    clear c0 c1 c2 c3 c4 c5 c6 c7 c8 c9 ct
    obtain ⟨c0,c1,c2,c3,c4,c5,c6,c7,c8,c9⟩:=(show Sy nm W2 w.heap.size _ n F _ _ _ p A _ K from HSY).bx.below B3
    have ct:=(B3.cell (p:=⟨w.heap.size,0,none⟩) (lt_of_cell (show Sy nm W2 w.heap.size _ n F _ _ _ p A _ K from HSY).ct)).trans (show Sy nm W2 w.heap.size _ n F _ _ _ p A _ K from HSY).ct
    dsimp only at c0 c1 c2 c3 c4 c5 c6 c7
    by_cases h2:br ⟨37,f,t,l,o,m,g,x⟩ p false false false false
    ·rw [dc_t h2]
     have HH2:Hid (br ⟨37,f,t,l,o,m,g,x⟩ p false false false false):=h2
     clear h2
     go_wp2_with fail
     go_ret
     exact ⟨by rw [show R = _ from HR,dc_t ⟨(by first | rfl | trivial),HH1,HH2⟩];first | rfl | (simp [*];done),(show ∀ W,Below W2.heap.size W2 W→Below w.heap.size w W from HBL) _ B3⟩
    ·rw [dc_f h2]
     have HN9:Hid (Nt (br ⟨37,f,t,l,o,m,g,x⟩ p false false false false)):=h2
     clear h2
     go_wp2_with fail
     go_ret
     exact ⟨by rw [show R = _ from HR,dc_f (fun g=>HN9 g.2.2)];first | rfl | (simp [*];done),(show ∀ W,Below W2.heap.size W2 W→Below w.heap.size w W from HBL) _ B3⟩
   ·have ek11:=bne h11
    have HN9:Hid (Nt (kdk F K 0=34∨kdk F K 0=27)):=(fun g=>g.elim h10 h11:¬ _)
    clear h10 h11
    go_wp2_with fail
    go_ret
    exact ⟨by rw [show R = _ from HR,dc_f (fun g=>HN9 g.2.1)];first | rfl | (simp [*];done),(show ∀ W,Below W2.heap.size W2 W→Below w.heap.size w W from HBL) _ B2⟩
 ·have e0:((q:Int) == 1)=false:=bne (by omega)
  have HN9:Hid (Nt (q=1)):=hq0
  clear hq0
  go_enter Tryz.func87,Tryz.ntmps87
  unfold fmv
  dsimp only at hW2
  go_wp2_with fail
  go_ret
  exact ⟨by rw [show R = _ from HR,dc_f (fun g=>HN9 g.1)];rfl,bel2 _ _ _⟩
theorem xp_28 {nm : ByteArray → Prop} {w : World} {v : Value} {n : Nat} {F : Nat → Gv} {vn vk : Value} {p : Nat} {A : Nat → ByteArray} {q : Nat} {K : Nat → Int} (s : Sx nm w v n F vn vk p A q K) (a : Fv) (hga : a.g < 18446744073709551616) (hk : a.k = 28) :
  Calls Tryz.prog 87 #[.agg #[v],fmv a vn vk] w fun e w'=>e = .returned (.bool (dc (q=2∧ex F K 0 2∧br a p false false false false)))∧Below w.heap.size w w':=by
 have hs:=s.sy a hga 56 102
 obtain ⟨W2,hW2⟩:∃ W2,W2=(w.alloc (.cells #[v] 56)).alloc (.cells #[.int .i64 a.k,.int .i64 a.f,.int .i64 a.t,.int .i64 a.l,.int .i64 a.o,.int .i64 a.m,.float .f64 a.g,.string a.x,vn,vk] 102):=⟨_,rfl⟩
 rw [← hW2] at hs
 have HBL:Hid (∀ W,Below W2.heap.size W2 W→Below w.heap.size w W):=(fun W hb=>by rw [hW2] at hb;exact (bel2 w _ _).trans (hb.mono (bel2 w _ _).size):∀ W,_)
 have HSY:Hid (Sy nm W2 w.heap.size v n F a vn vk p A q K):=hs
 have hqI:(q:Int)≤1048576:=by have:=s.hq;omega
 obtain ⟨pn,cn,rfl,_⟩:=s.rn
 obtain ⟨pk,ck,rfl,_⟩:=s.rk
 obtain ⟨pf,cf,rfl,_⟩:=s.rf
 have HSQ:Hid (q≤1048576):=s.hq
 obtain ⟨R,hR⟩:∃ R,R=dc (q=2∧ex F K 0 2∧br a p false false false false):=⟨_,rfl⟩
 have HR:Hid (R=dc (q=2∧ex F K 0 2∧br a p false false false false)):=hR
 rw [← hR]
 clear hs s hR hga
 obtain ⟨k,f,t,l,o,m,g,x⟩:=a
 dsimp only at hk
 subst hk
 by_cases hq0:q=2
 ·subst hq0
  go_enter Tryz.func87,Tryz.ntmps87
  unfold fmv
  dsimp only at hW2
  go_wp2_with fail
  rw [← hW2]
  clear hW2
  have B0:Below W2.heap.size W2 W2:=Below.refl _ _
  obtain ⟨c0,c1,c2,c3,c4,c5,c6,c7,c8,c9⟩:=(show Sy nm W2 w.heap.size _ n F _ _ _ p A _ K from HSY).bx
  have ct:=(show Sy nm W2 w.heap.size _ n F _ _ _ p A _ K from HSY).ct
  dsimp only at c0 c1 c2 c3 c4 c5 c6 c7
  go_wp2_with fail
  refine ((show Sy nm W2 w.heap.size _ n F _ _ _ p A _ K from HSY).exprs _ _ 0 2 rfl (by first | rfl | omega) (by omega) (by omega) _ B0).mono ?_
  rintro e w1 ⟨rfl,B1⟩
  clear c0 c1 c2 c3 c4 c5 c6 c7 c8 c9 ct
  obtain ⟨c0,c1,c2,c3,c4,c5,c6,c7,c8,c9⟩:=(show Sy nm W2 w.heap.size _ n F _ _ _ p A _ K from HSY).bx.below B1
  have ct:=(B1.cell (p:=⟨w.heap.size,0,none⟩) (lt_of_cell (show Sy nm W2 w.heap.size _ n F _ _ _ p A _ K from HSY).ct)).trans (show Sy nm W2 w.heap.size _ n F _ _ _ p A _ K from HSY).ct
  dsimp only at c0 c1 c2 c3 c4 c5 c6 c7
  by_cases h1:ex F K 0 2
  ·rw [dc_t h1]
   have HH1:Hid (ex F K 0 2):=h1
   clear h1
   go_wp2_with fail
   refine ((show Sy nm W2 w.heap.size _ n F _ _ _ p A _ K from HSY).bare false false false false _ B1).mono ?_
   rintro e w2 ⟨rfl,B2⟩
   clear c0 c1 c2 c3 c4 c5 c6 c7 c8 c9 ct
   obtain ⟨c0,c1,c2,c3,c4,c5,c6,c7,c8,c9⟩:=(show Sy nm W2 w.heap.size _ n F _ _ _ p A _ K from HSY).bx.below B2
   have ct:=(B2.cell (p:=⟨w.heap.size,0,none⟩) (lt_of_cell (show Sy nm W2 w.heap.size _ n F _ _ _ p A _ K from HSY).ct)).trans (show Sy nm W2 w.heap.size _ n F _ _ _ p A _ K from HSY).ct
   dsimp only at c0 c1 c2 c3 c4 c5 c6 c7
   by_cases h2:br ⟨28,f,t,l,o,m,g,x⟩ p false false false false
   ·rw [dc_t h2]
    have HH2:Hid (br ⟨28,f,t,l,o,m,g,x⟩ p false false false false):=h2
    clear h2
    go_wp2_with fail
    go_ret
    exact ⟨by rw [show R = _ from HR,dc_t ⟨(by first | rfl | trivial),HH1,HH2⟩];first | rfl | (simp [*];done),(show ∀ W,Below W2.heap.size W2 W→Below w.heap.size w W from HBL) _ B2⟩
   ·rw [dc_f h2]
    have HN9:Hid (Nt (br ⟨28,f,t,l,o,m,g,x⟩ p false false false false)):=h2
    clear h2
    go_wp2_with fail
    go_ret
    exact ⟨by rw [show R = _ from HR,dc_f (fun g=>HN9 g.2.2)];first | rfl | (simp [*];done),(show ∀ W,Below W2.heap.size W2 W→Below w.heap.size w W from HBL) _ B2⟩
  ·rw [dc_f h1]
   have HN9:Hid (Nt (ex F K 0 2)):=h1
   clear h1
   go_wp2_with fail
   go_ret
   exact ⟨by rw [show R = _ from HR,dc_f (fun g=>HN9 g.2.1)];first | rfl | (simp [*];done),(show ∀ W,Below W2.heap.size W2 W→Below w.heap.size w W from HBL) _ B1⟩
 ·have e0:((q:Int) == 2)=false:=bne (by omega)
  have HN9:Hid (Nt (q=2)):=hq0
  clear hq0
  go_enter Tryz.func87,Tryz.ntmps87
  unfold fmv
  dsimp only at hW2
  go_wp2_with fail
  go_ret
  exact ⟨by rw [show R = _ from HR,dc_f (fun g=>HN9 g.1)];rfl,bel2 _ _ _⟩
theorem xp_32 {nm : ByteArray → Prop} {w : World} {v : Value} {n : Nat} {F : Nat → Gv} {vn vk : Value} {p : Nat} {A : Nat → ByteArray} {q : Nat} {K : Nat → Int} (s : Sx nm w v n F vn vk p A q K) (a : Fv) (hga : a.g < 18446744073709551616) (hk : a.k = 32) :
  Calls Tryz.prog 87 #[.agg #[v],fmv a vn vk] w fun e w'=>e = .returned (.bool (dc (q=2∧ex F K 0 2∧kdk F K 0 ≠ 27∧br a p false false false false)))∧Below w.heap.size w w':=by
 have hs:=s.sy a hga 56 102
 obtain ⟨W2,hW2⟩:∃ W2,W2=(w.alloc (.cells #[v] 56)).alloc (.cells #[.int .i64 a.k,.int .i64 a.f,.int .i64 a.t,.int .i64 a.l,.int .i64 a.o,.int .i64 a.m,.float .f64 a.g,.string a.x,vn,vk] 102):=⟨_,rfl⟩
 rw [← hW2] at hs
 have HBL:Hid (∀ W,Below W2.heap.size W2 W→Below w.heap.size w W):=(fun W hb=>by rw [hW2] at hb;exact (bel2 w _ _).trans (hb.mono (bel2 w _ _).size):∀ W,_)
 have HSY:Hid (Sy nm W2 w.heap.size v n F a vn vk p A q K):=hs
 have hqI:(q:Int)≤1048576:=by have:=s.hq;omega
 obtain ⟨pn,cn,rfl,_⟩:=s.rn
 obtain ⟨pk,ck,rfl,_⟩:=s.rk
 obtain ⟨pf,cf,rfl,_⟩:=s.rf
 have HSQ:Hid (q≤1048576):=s.hq
 obtain ⟨R,hR⟩:∃ R,R=dc (q=2∧ex F K 0 2∧kdk F K 0 ≠ 27∧br a p false false false false):=⟨_,rfl⟩
 have HR:Hid (R=dc (q=2∧ex F K 0 2∧kdk F K 0 ≠ 27∧br a p false false false false)):=hR
 rw [← hR]
 clear hs s hR hga
 obtain ⟨k,f,t,l,o,m,g,x⟩:=a
 dsimp only at hk
 subst hk
 by_cases hq0:q=2
 ·subst hq0
  go_enter Tryz.func87,Tryz.ntmps87
  unfold fmv
  dsimp only at hW2
  go_wp2_with fail
  rw [← hW2]
  clear hW2
  have B0:Below W2.heap.size W2 W2:=Below.refl _ _
  obtain ⟨c0,c1,c2,c3,c4,c5,c6,c7,c8,c9⟩:=(show Sy nm W2 w.heap.size _ n F _ _ _ p A _ K from HSY).bx
  have ct:=(show Sy nm W2 w.heap.size _ n F _ _ _ p A _ K from HSY).ct
  dsimp only at c0 c1 c2 c3 c4 c5 c6 c7
  go_wp2_with fail
  refine ((show Sy nm W2 w.heap.size _ n F _ _ _ p A _ K from HSY).exprs _ _ 0 2 rfl (by first | rfl | omega) (by omega) (by omega) _ B0).mono ?_
  rintro e w1 ⟨rfl,B1⟩
  clear c0 c1 c2 c3 c4 c5 c6 c7 c8 c9 ct
  obtain ⟨c0,c1,c2,c3,c4,c5,c6,c7,c8,c9⟩:=(show Sy nm W2 w.heap.size _ n F _ _ _ p A _ K from HSY).bx.below B1
  have ct:=(B1.cell (p:=⟨w.heap.size,0,none⟩) (lt_of_cell (show Sy nm W2 w.heap.size _ n F _ _ _ p A _ K from HSY).ct)).trans (show Sy nm W2 w.heap.size _ n F _ _ _ p A _ K from HSY).ct
  dsimp only at c0 c1 c2 c3 c4 c5 c6 c7
  by_cases h1:ex F K 0 2
  ·rw [dc_t h1]
   have HH1:Hid (ex F K 0 2):=h1
   clear h1
   go_wp2_with fail
   refine ((show Sy nm W2 w.heap.size _ n F _ _ _ p A _ K from HSY).kid _ 0 (by first | rfl | omega) (by first | omega | (have:=(show 1≤q from HQG);omega)) _ B1).mono ?_
   rintro e w2 ⟨rfl,B2⟩
   clear c0 c1 c2 c3 c4 c5 c6 c7 c8 c9 ct
   obtain ⟨c0,c1,c2,c3,c4,c5,c6,c7,c8,c9⟩:=(show Sy nm W2 w.heap.size _ n F _ _ _ p A _ K from HSY).bx.below B2
   have ct:=(B2.cell (p:=⟨w.heap.size,0,none⟩) (lt_of_cell (show Sy nm W2 w.heap.size _ n F _ _ _ p A _ K from HSY).ct)).trans (show Sy nm W2 w.heap.size _ n F _ _ _ p A _ K from HSY).ct
   dsimp only at c0 c1 c2 c3 c4 c5 c6 c7
   by_cases h2:kdk F K 0 ≠ 27
   ·have ek2:=bne h2
    have HH2:Hid (kdk F K 0 ≠ 27):=h2
    clear h2
    go_wp2_with fail
    refine ((show Sy nm W2 w.heap.size _ n F _ _ _ p A _ K from HSY).bare false false false false _ B2).mono ?_
    rintro e w3 ⟨rfl,B3⟩
    clear c0 c1 c2 c3 c4 c5 c6 c7 c8 c9 ct
    obtain ⟨c0,c1,c2,c3,c4,c5,c6,c7,c8,c9⟩:=(show Sy nm W2 w.heap.size _ n F _ _ _ p A _ K from HSY).bx.below B3
    have ct:=(B3.cell (p:=⟨w.heap.size,0,none⟩) (lt_of_cell (show Sy nm W2 w.heap.size _ n F _ _ _ p A _ K from HSY).ct)).trans (show Sy nm W2 w.heap.size _ n F _ _ _ p A _ K from HSY).ct
    dsimp only at c0 c1 c2 c3 c4 c5 c6 c7
    by_cases h3:br ⟨32,f,t,l,o,m,g,x⟩ p false false false false
    ·rw [dc_t h3]
     have HH3:Hid (br ⟨32,f,t,l,o,m,g,x⟩ p false false false false):=h3
     clear h3
     go_wp2_with fail
     go_ret
     exact ⟨by rw [show R = _ from HR,dc_t ⟨(by first | rfl | trivial),HH1,HH2,HH3⟩];first | rfl | (simp [*];done),(show ∀ W,Below W2.heap.size W2 W→Below w.heap.size w W from HBL) _ B3⟩
    ·rw [dc_f h3]
     have HN9:Hid (Nt (br ⟨32,f,t,l,o,m,g,x⟩ p false false false false)):=h3
     clear h3
     go_wp2_with fail
     go_ret
     exact ⟨by rw [show R = _ from HR,dc_f (fun g=>HN9 g.2.2.2)];first | rfl | (simp [*];done),(show ∀ W,Below W2.heap.size W2 W→Below w.heap.size w W from HBL) _ B3⟩
   ·have ek2:=beq1 (Decidable.not_not.1 h2)
    have HN9:Hid (Nt (kdk F K 0 ≠ 27)):=h2
    clear h2
    go_wp2_with fail
    go_ret
    exact ⟨by rw [show R = _ from HR,dc_f (fun g=>HN9 g.2.2.1)];first | rfl | (simp [*];done),(show ∀ W,Below W2.heap.size W2 W→Below w.heap.size w W from HBL) _ B2⟩
  ·rw [dc_f h1]
   have HN9:Hid (Nt (ex F K 0 2)):=h1
   clear h1
   go_wp2_with fail
   go_ret
   exact ⟨by rw [show R = _ from HR,dc_f (fun g=>HN9 g.2.1)];first | rfl | (simp [*];done),(show ∀ W,Below W2.heap.size W2 W→Below w.heap.size w W from HBL) _ B1⟩
 ·have e0:((q:Int) == 2)=false:=bne (by omega)
  have HN9:Hid (Nt (q=2)):=hq0
  clear hq0
  go_enter Tryz.func87,Tryz.ntmps87
  unfold fmv
  dsimp only at hW2
  go_wp2_with fail
  go_ret
  exact ⟨by rw [show R = _ from HR,dc_f (fun g=>HN9 g.1)];rfl,bel2 _ _ _⟩
theorem xp_33 {nm : ByteArray → Prop} {w : World} {v : Value} {n : Nat} {F : Nat → Gv} {vn vk : Value} {p : Nat} {A : Nat → ByteArray} {q : Nat} {K : Nat → Int} (s : Sx nm w v n F vn vk p A q K) (a : Fv) (hga : a.g < 18446744073709551616) (hk : a.k = 33) :
  Calls Tryz.prog 87 #[.agg #[v],fmv a vn vk] w fun e w'=>e = .returned (.bool (dc (q=1∧ex F K 0 1∧kdk F K 0 ≠ 27∧br a p false false true false∧nm a.x)))∧Below w.heap.size w w':=by
 have hs:=s.sy a hga 56 102
 obtain ⟨W2,hW2⟩:∃ W2,W2=(w.alloc (.cells #[v] 56)).alloc (.cells #[.int .i64 a.k,.int .i64 a.f,.int .i64 a.t,.int .i64 a.l,.int .i64 a.o,.int .i64 a.m,.float .f64 a.g,.string a.x,vn,vk] 102):=⟨_,rfl⟩
 rw [← hW2] at hs
 have HBL:Hid (∀ W,Below W2.heap.size W2 W→Below w.heap.size w W):=(fun W hb=>by rw [hW2] at hb;exact (bel2 w _ _).trans (hb.mono (bel2 w _ _).size):∀ W,_)
 have HSY:Hid (Sy nm W2 w.heap.size v n F a vn vk p A q K):=hs
 have hqI:(q:Int)≤1048576:=by have:=s.hq;omega
 obtain ⟨pn,cn,rfl,_⟩:=s.rn
 obtain ⟨pk,ck,rfl,_⟩:=s.rk
 obtain ⟨pf,cf,rfl,_⟩:=s.rf
 have HSQ:Hid (q≤1048576):=s.hq
 obtain ⟨R,hR⟩:∃ R,R=dc (q=1∧ex F K 0 1∧kdk F K 0 ≠ 27∧br a p false false true false∧nm a.x):=⟨_,rfl⟩
 have HR:Hid (R=dc (q=1∧ex F K 0 1∧kdk F K 0 ≠ 27∧br a p false false true false∧nm a.x)):=hR
 rw [← hR]
 clear hs s hR hga
 obtain ⟨k,f,t,l,o,m,g,x⟩:=a
 dsimp only at hk
 subst hk
 by_cases hq0:q=1
 ·subst hq0
  go_enter Tryz.func87,Tryz.ntmps87
  unfold fmv
  dsimp only at hW2
  go_wp2_with fail
  rw [← hW2]
  clear hW2
  have B0:Below W2.heap.size W2 W2:=Below.refl _ _
  obtain ⟨c0,c1,c2,c3,c4,c5,c6,c7,c8,c9⟩:=(show Sy nm W2 w.heap.size _ n F _ _ _ p A _ K from HSY).bx
  have ct:=(show Sy nm W2 w.heap.size _ n F _ _ _ p A _ K from HSY).ct
  dsimp only at c0 c1 c2 c3 c4 c5 c6 c7
  go_wp2_with fail
  refine ((show Sy nm W2 w.heap.size _ n F _ _ _ p A _ K from HSY).exprs _ _ 0 1 rfl (by first | rfl | omega) (by omega) (by omega) _ B0).mono ?_
  rintro e w1 ⟨rfl,B1⟩
  clear c0 c1 c2 c3 c4 c5 c6 c7 c8 c9 ct
  obtain ⟨c0,c1,c2,c3,c4,c5,c6,c7,c8,c9⟩:=(show Sy nm W2 w.heap.size _ n F _ _ _ p A _ K from HSY).bx.below B1
  have ct:=(B1.cell (p:=⟨w.heap.size,0,none⟩) (lt_of_cell (show Sy nm W2 w.heap.size _ n F _ _ _ p A _ K from HSY).ct)).trans (show Sy nm W2 w.heap.size _ n F _ _ _ p A _ K from HSY).ct
  dsimp only at c0 c1 c2 c3 c4 c5 c6 c7
  by_cases h1:ex F K 0 1
  ·rw [dc_t h1]
   have HH1:Hid (ex F K 0 1):=h1
   clear h1
   go_wp2_with fail
   refine ((show Sy nm W2 w.heap.size _ n F _ _ _ p A _ K from HSY).kid _ 0 (by first | rfl | omega) (by first | omega | (have:=(show 1≤q from HQG);omega)) _ B1).mono ?_
   rintro e w2 ⟨rfl,B2⟩
   clear c0 c1 c2 c3 c4 c5 c6 c7 c8 c9 ct
   obtain ⟨c0,c1,c2,c3,c4,c5,c6,c7,c8,c9⟩:=(show Sy nm W2 w.heap.size _ n F _ _ _ p A _ K from HSY).bx.below B2
   have ct:=(B2.cell (p:=⟨w.heap.size,0,none⟩) (lt_of_cell (show Sy nm W2 w.heap.size _ n F _ _ _ p A _ K from HSY).ct)).trans (show Sy nm W2 w.heap.size _ n F _ _ _ p A _ K from HSY).ct
   dsimp only at c0 c1 c2 c3 c4 c5 c6 c7
   by_cases h2:kdk F K 0 ≠ 27
   ·have ek2:=bne h2
    have HH2:Hid (kdk F K 0 ≠ 27):=h2
    clear h2
    go_wp2_with fail
    refine ((show Sy nm W2 w.heap.size _ n F _ _ _ p A _ K from HSY).bare false false true false _ B2).mono ?_
    rintro e w3 ⟨rfl,B3⟩
    clear c0 c1 c2 c3 c4 c5 c6 c7 c8 c9 ct
    obtain ⟨c0,c1,c2,c3,c4,c5,c6,c7,c8,c9⟩:=(show Sy nm W2 w.heap.size _ n F _ _ _ p A _ K from HSY).bx.below B3
    have ct:=(B3.cell (p:=⟨w.heap.size,0,none⟩) (lt_of_cell (show Sy nm W2 w.heap.size _ n F _ _ _ p A _ K from HSY).ct)).trans (show Sy nm W2 w.heap.size _ n F _ _ _ p A _ K from HSY).ct
    dsimp only at c0 c1 c2 c3 c4 c5 c6 c7
    by_cases h3:br ⟨33,f,t,l,o,m,g,x⟩ p false false true false
    ·rw [dc_t h3]
     have HH3:Hid (br ⟨33,f,t,l,o,m,g,x⟩ p false false true false):=h3
     clear h3
     go_wp2_with fail
     refine ((((show Sy nm W2 w.heap.size _ n F _ _ _ p A _ K from HSY).hn x _).mono fun _ _ h=>(⟨h.1,below_to B3 h.2⟩:_∧Below W2.heap.size W2 _))).mono ?_
     rintro e w4 ⟨rfl,B4⟩
     clear c0 c1 c2 c3 c4 c5 c6 c7 c8 c9 ct
     obtain ⟨c0,c1,c2,c3,c4,c5,c6,c7,c8,c9⟩:=(show Sy nm W2 w.heap.size _ n F _ _ _ p A _ K from HSY).bx.below B4
     have ct:=(B4.cell (p:=⟨w.heap.size,0,none⟩) (lt_of_cell (show Sy nm W2 w.heap.size _ n F _ _ _ p A _ K from HSY).ct)).trans (show Sy nm W2 w.heap.size _ n F _ _ _ p A _ K from HSY).ct
     dsimp only at c0 c1 c2 c3 c4 c5 c6 c7
     by_cases h4:nm x
     ·rw [dc_t h4]
      have HH4:Hid (nm x):=h4
      clear h4
      go_wp2_with fail
      go_ret
      exact ⟨by rw [show R = _ from HR,dc_t ⟨(by first | rfl | trivial),HH1,HH2,HH3,HH4⟩];first | rfl | (simp [*];done),(show ∀ W,Below W2.heap.size W2 W→Below w.heap.size w W from HBL) _ B4⟩
     ·rw [dc_f h4]
      have HN9:Hid (Nt (nm x)):=h4
      clear h4
      go_wp2_with fail
      go_ret
      exact ⟨by rw [show R = _ from HR,dc_f (fun g=>HN9 g.2.2.2.2)];first | rfl | (simp [*];done),(show ∀ W,Below W2.heap.size W2 W→Below w.heap.size w W from HBL) _ B4⟩
    ·rw [dc_f h3]
     have HN9:Hid (Nt (br ⟨33,f,t,l,o,m,g,x⟩ p false false true false)):=h3
     clear h3
     go_wp2_with fail
     go_ret
     exact ⟨by rw [show R = _ from HR,dc_f (fun g=>HN9 g.2.2.2.1)];first | rfl | (simp [*];done),(show ∀ W,Below W2.heap.size W2 W→Below w.heap.size w W from HBL) _ B3⟩
   ·have ek2:=beq1 (Decidable.not_not.1 h2)
    have HN9:Hid (Nt (kdk F K 0 ≠ 27)):=h2
    clear h2
    go_wp2_with fail
    go_ret
    exact ⟨by rw [show R = _ from HR,dc_f (fun g=>HN9 g.2.2.1)];first | rfl | (simp [*];done),(show ∀ W,Below W2.heap.size W2 W→Below w.heap.size w W from HBL) _ B2⟩
  ·rw [dc_f h1]
   have HN9:Hid (Nt (ex F K 0 1)):=h1
   clear h1
   go_wp2_with fail
   go_ret
   exact ⟨by rw [show R = _ from HR,dc_f (fun g=>HN9 g.2.1)];first | rfl | (simp [*];done),(show ∀ W,Below W2.heap.size W2 W→Below w.heap.size w W from HBL) _ B1⟩
 ·have e0:((q:Int) == 1)=false:=bne (by omega)
  have HN9:Hid (Nt (q=1)):=hq0
  clear hq0
  go_enter Tryz.func87,Tryz.ntmps87
  unfold fmv
  dsimp only at hW2
  go_wp2_with fail
  go_ret
  exact ⟨by rw [show R = _ from HR,dc_f (fun g=>HN9 g.1)];rfl,bel2 _ _ _⟩
theorem xp_34 {nm : ByteArray → Prop} {w : World} {v : Value} {n : Nat} {F : Nat → Gv} {vn vk : Value} {p : Nat} {A : Nat → ByteArray} {q : Nat} {K : Nat → Int} (s : Sx nm w v n F vn vk p A q K) (a : Fv) (hga : a.g < 18446744073709551616) (hk : a.k = 34) :
  Calls Tryz.prog 87 #[.agg #[v],fmv a vn vk] w fun e w'=>e = .returned (.bool (dc (1≤q∧ex F K 0 q∧kdk F K 0 ≠ 27∧br a p false false false false)))∧Below w.heap.size w w':=by
 have hs:=s.sy a hga 56 102
 obtain ⟨W2,hW2⟩:∃ W2,W2=(w.alloc (.cells #[v] 56)).alloc (.cells #[.int .i64 a.k,.int .i64 a.f,.int .i64 a.t,.int .i64 a.l,.int .i64 a.o,.int .i64 a.m,.float .f64 a.g,.string a.x,vn,vk] 102):=⟨_,rfl⟩
 rw [← hW2] at hs
 have HBL:Hid (∀ W,Below W2.heap.size W2 W→Below w.heap.size w W):=(fun W hb=>by rw [hW2] at hb;exact (bel2 w _ _).trans (hb.mono (bel2 w _ _).size):∀ W,_)
 have HSY:Hid (Sy nm W2 w.heap.size v n F a vn vk p A q K):=hs
 have hqI:(q:Int)≤1048576:=by have:=s.hq;omega
 obtain ⟨pn,cn,rfl,_⟩:=s.rn
 obtain ⟨pk,ck,rfl,_⟩:=s.rk
 obtain ⟨pf,cf,rfl,_⟩:=s.rf
 have HSQ:Hid (q≤1048576):=s.hq
 obtain ⟨R,hR⟩:∃ R,R=dc (1≤q∧ex F K 0 q∧kdk F K 0 ≠ 27∧br a p false false false false):=⟨_,rfl⟩
 have HR:Hid (R=dc (1≤q∧ex F K 0 q∧kdk F K 0 ≠ 27∧br a p false false false false)):=hR
 rw [← hR]
 clear hs s hR hga
 obtain ⟨k,f,t,l,o,m,g,x⟩:=a
 dsimp only at hk
 subst hk
 by_cases h0 : 1≤q
 ·have ft0:(1:Int)≤(q:Int):=by omega
  have HH0:Hid (1≤q):=h0
  have HQG:Hid (1≤q):=h0
  clear h0
  go_enter Tryz.func87,Tryz.ntmps87
  unfold fmv
  dsimp only at hW2
  go_wp2_with fail
  rw [← hW2]
  clear hW2
  have B0:Below W2.heap.size W2 W2:=Below.refl _ _
  obtain ⟨c0,c1,c2,c3,c4,c5,c6,c7,c8,c9⟩:=(show Sy nm W2 w.heap.size _ n F _ _ _ p A _ K from HSY).bx
  have ct:=(show Sy nm W2 w.heap.size _ n F _ _ _ p A _ K from HSY).ct
  dsimp only at c0 c1 c2 c3 c4 c5 c6 c7
  go_wp2_with fail
  refine ((show Sy nm W2 w.heap.size _ n F _ _ _ p A _ K from HSY).exprs _ _ 0 q rfl (by first | rfl | omega) (by omega) (by omega) _ B0).mono ?_
  rintro e w1 ⟨rfl,B1⟩
  clear c0 c1 c2 c3 c4 c5 c6 c7 c8 c9 ct
  obtain ⟨c0,c1,c2,c3,c4,c5,c6,c7,c8,c9⟩:=(show Sy nm W2 w.heap.size _ n F _ _ _ p A _ K from HSY).bx.below B1
  have ct:=(B1.cell (p:=⟨w.heap.size,0,none⟩) (lt_of_cell (show Sy nm W2 w.heap.size _ n F _ _ _ p A _ K from HSY).ct)).trans (show Sy nm W2 w.heap.size _ n F _ _ _ p A _ K from HSY).ct
  dsimp only at c0 c1 c2 c3 c4 c5 c6 c7
  by_cases h1:ex F K 0 q
  ·rw [dc_t h1]
   have HH1:Hid (ex F K 0 q):=h1
   clear h1
   go_wp2_with fail
   refine ((show Sy nm W2 w.heap.size _ n F _ _ _ p A _ K from HSY).kid _ 0 (by first | rfl | omega) (by first | omega | (have:=(show 1≤q from HQG);omega)) _ B1).mono ?_
   rintro e w2 ⟨rfl,B2⟩
   clear c0 c1 c2 c3 c4 c5 c6 c7 c8 c9 ct
   obtain ⟨c0,c1,c2,c3,c4,c5,c6,c7,c8,c9⟩:=(show Sy nm W2 w.heap.size _ n F _ _ _ p A _ K from HSY).bx.below B2
   have ct:=(B2.cell (p:=⟨w.heap.size,0,none⟩) (lt_of_cell (show Sy nm W2 w.heap.size _ n F _ _ _ p A _ K from HSY).ct)).trans (show Sy nm W2 w.heap.size _ n F _ _ _ p A _ K from HSY).ct
   dsimp only at c0 c1 c2 c3 c4 c5 c6 c7
   by_cases h2:kdk F K 0 ≠ 27
   ·have ek2:=bne h2
    have HH2:Hid (kdk F K 0 ≠ 27):=h2
    clear h2
    go_wp2_with fail
    refine ((show Sy nm W2 w.heap.size _ n F _ _ _ p A _ K from HSY).bare false false false false _ B2).mono ?_
    rintro e w3 ⟨rfl,B3⟩
    clear c0 c1 c2 c3 c4 c5 c6 c7 c8 c9 ct
    obtain ⟨c0,c1,c2,c3,c4,c5,c6,c7,c8,c9⟩:=(show Sy nm W2 w.heap.size _ n F _ _ _ p A _ K from HSY).bx.below B3
    have ct:=(B3.cell (p:=⟨w.heap.size,0,none⟩) (lt_of_cell (show Sy nm W2 w.heap.size _ n F _ _ _ p A _ K from HSY).ct)).trans (show Sy nm W2 w.heap.size _ n F _ _ _ p A _ K from HSY).ct
    dsimp only at c0 c1 c2 c3 c4 c5 c6 c7
    by_cases h3:br ⟨34,f,t,l,o,m,g,x⟩ p false false false false
    ·rw [dc_t h3]
     have HH3:Hid (br ⟨34,f,t,l,o,m,g,x⟩ p false false false false):=h3
     clear h3
     go_wp2_with fail
     go_ret
     exact ⟨by rw [show R = _ from HR,dc_t ⟨HH0,HH1,HH2,HH3⟩];first | rfl | (simp [*];done),(show ∀ W,Below W2.heap.size W2 W→Below w.heap.size w W from HBL) _ B3⟩
    ·rw [dc_f h3]
     have HN9:Hid (Nt (br ⟨34,f,t,l,o,m,g,x⟩ p false false false false)):=h3
     clear h3
     go_wp2_with fail
     go_ret
     exact ⟨by rw [show R = _ from HR,dc_f (fun g=>HN9 g.2.2.2)];first | rfl | (simp [*];done),(show ∀ W,Below W2.heap.size W2 W→Below w.heap.size w W from HBL) _ B3⟩
   ·have ek2:=beq1 (Decidable.not_not.1 h2)
    have HN9:Hid (Nt (kdk F K 0 ≠ 27)):=h2
    clear h2
    go_wp2_with fail
    go_ret
    exact ⟨by rw [show R = _ from HR,dc_f (fun g=>HN9 g.2.2.1)];first | rfl | (simp [*];done),(show ∀ W,Below W2.heap.size W2 W→Below w.heap.size w W from HBL) _ B2⟩
  ·rw [dc_f h1]
   have HN9:Hid (Nt (ex F K 0 q)):=h1
   clear h1
   go_wp2_with fail
   go_ret
   exact ⟨by rw [show R = _ from HR,dc_f (fun g=>HN9 g.2.1)];first | rfl | (simp [*];done),(show ∀ W,Below W2.heap.size W2 W→Below w.heap.size w W from HBL) _ B1⟩
 ·have e0:¬ (1:Int)≤(q:Int):=by omega
  have HN9:Hid (Nt (1≤q)):=h0
  clear h0
  go_enter Tryz.func87,Tryz.ntmps87
  unfold fmv
  dsimp only at hW2
  go_wp2_with fail
  go_ret
  exact ⟨by rw [show R = _ from HR,dc_f (fun g=>HN9 g.1)];rfl,bel2 _ _ _⟩
end Go.Proofs.YtomcmnompajnlaaGreatDoor.Fo.Po
