import Derived.Test.YtomcmnompajnlaaGreatDoorTXZSkc
set_option maxRecDepth 100000
set_option maxHeartbeats 8000000
namespace Go.Proofs.YtomcmnompajnlaaGreatDoor.Fo.Po
open Go.ChangeShapes Go.WideShapes Go.ChangeAt Go.RowKit
set_option linter.unusedVariables false
theorem st_3 {nm : ByteArray → Prop} {w : World} {v : Value} {n : Nat} {F : Nat → Gv} {vn vk : Value} {p : Nat} {A : Nat → ByteArray} {q : Nat} {K : Nat → Int} (s : Sx nm w v n F vn vk p A q K) (a : Fv) (hga : a.g < 18446744073709551616) (hk : a.k = 3) :
  Calls Tryz.prog 86 #[.agg #[v],fmv a vn vk] w fun e w'=>e = .returned (.bool (dc (br a p false false false true∧nd nm p A 1 1∧q=1∧ex F K 0 1)))∧Below w.heap.size w w':=by
 have hs:=s.sy a hga 56 102
 obtain ⟨W2,hW2⟩:∃ W2,W2=(w.alloc (.cells #[v] 56)).alloc (.cells #[.int .i64 a.k,.int .i64 a.f,.int .i64 a.t,.int .i64 a.l,.int .i64 a.o,.int .i64 a.m,.float .f64 a.g,.string a.x,vn,vk] 102):=⟨_,rfl⟩
 rw [← hW2] at hs
 have HBL:Hid (∀ W,Below W2.heap.size W2 W→Below w.heap.size w W):=(fun W hb=>by rw [hW2] at hb;exact (bel2 w _ _).trans (hb.mono (bel2 w _ _).size):∀ W,_)
 have HSY:Hid (Sy nm W2 w.heap.size v n F a vn vk p A q K):=hs
 have hqI:(q:Int)≤1048576:=by have:=s.hq;omega
 obtain ⟨pn,cn,rfl,_⟩:=s.rn
 obtain ⟨pk,ck,rfl,_⟩:=s.rk
 obtain ⟨pf,cf,rfl,_⟩:=s.rf
 have HSQ:Hid (q≤1048576):=s.hq
 obtain ⟨R,hR⟩:∃ R,R=dc (br a p false false false true∧nd nm p A 1 1∧q=1∧ex F K 0 1):=⟨_,rfl⟩
 have HR:Hid (R=dc (br a p false false false true∧nd nm p A 1 1∧q=1∧ex F K 0 1)):=hR
 rw [← hR]
 clear hs s hR hga
 obtain ⟨k,f,t,l,o,m,g,x⟩:=a
 dsimp only at hk
 subst hk
 go_enter Tryz.func86,Tryz.ntmps86
 unfold fmv
 dsimp only at hW2
 go_wp2_with fail
 rw [← hW2]
 clear hW2
 have B0:Below W2.heap.size W2 W2:=Below.refl _ _
 obtain ⟨c0,c1,c2,c3,c4,c5,c6,c7,c8,c9⟩:=(show Sy nm W2 w.heap.size _ n F _ _ _ p A q K from HSY).bx
 have ct:=(show Sy nm W2 w.heap.size _ n F _ _ _ p A q K from HSY).ct
 dsimp only at c0 c1 c2 c3 c4 c5 c6 c7
 go_wp2_with fail
 refine ((show Sy nm W2 w.heap.size _ n F _ _ _ p A _ K from HSY).bare false false false true _ B0).mono ?_
 rintro e w1 ⟨rfl,B1⟩
 clear c0 c1 c2 c3 c4 c5 c6 c7 c8 c9 ct
 obtain ⟨c0,c1,c2,c3,c4,c5,c6,c7,c8,c9⟩:=(show Sy nm W2 w.heap.size _ n F _ _ _ p A _ K from HSY).bx.below B1
 have ct:=(B1.cell (p:=⟨w.heap.size,0,none⟩) (lt_of_cell (show Sy nm W2 w.heap.size _ n F _ _ _ p A _ K from HSY).ct)).trans (show Sy nm W2 w.heap.size _ n F _ _ _ p A _ K from HSY).ct
 dsimp only at c0 c1 c2 c3 c4 c5 c6 c7
 by_cases h0:br ⟨3,f,t,l,o,m,g,x⟩ p false false false true
 ·rw [dc_t h0]
  have HH0:Hid (br ⟨3,f,t,l,o,m,g,x⟩ p false false false true):=h0
  clear h0
  go_wp2_with fail
  refine ((show Sy nm W2 w.heap.size _ n F _ _ _ p A _ K from HSY).named 1 1 (by omega) (by omega) _ B1).mono ?_
  rintro e w2 ⟨rfl,B2⟩
  clear c0 c1 c2 c3 c4 c5 c6 c7 c8 c9 ct
  obtain ⟨c0,c1,c2,c3,c4,c5,c6,c7,c8,c9⟩:=(show Sy nm W2 w.heap.size _ n F _ _ _ p A _ K from HSY).bx.below B2
  have ct:=(B2.cell (p:=⟨w.heap.size,0,none⟩) (lt_of_cell (show Sy nm W2 w.heap.size _ n F _ _ _ p A _ K from HSY).ct)).trans (show Sy nm W2 w.heap.size _ n F _ _ _ p A _ K from HSY).ct
  dsimp only at c0 c1 c2 c3 c4 c5 c6 c7
  by_cases h1:nd nm p A 1 1
  ·rw [dc_t h1]
   have HH1:Hid (nd nm p A 1 1):=h1
   clear h1
   skip
   by_cases hq0:q=1
   ·subst hq0
    go_wp2_with fail
    refine ((show Sy nm W2 w.heap.size _ n F _ _ _ p A _ K from HSY).exprs _ _ 0 1 rfl (by first | rfl | omega) (by omega) (by omega) _ B2).mono ?_
    rintro e w3 ⟨rfl,B3⟩
    clear c0 c1 c2 c3 c4 c5 c6 c7 c8 c9 ct
    obtain ⟨c0,c1,c2,c3,c4,c5,c6,c7,c8,c9⟩:=(show Sy nm W2 w.heap.size _ n F _ _ _ p A _ K from HSY).bx.below B3
    have ct:=(B3.cell (p:=⟨w.heap.size,0,none⟩) (lt_of_cell (show Sy nm W2 w.heap.size _ n F _ _ _ p A _ K from HSY).ct)).trans (show Sy nm W2 w.heap.size _ n F _ _ _ p A _ K from HSY).ct
    dsimp only at c0 c1 c2 c3 c4 c5 c6 c7
    by_cases h3:ex F K 0 1
    ·rw [dc_t h3]
     have HH3:Hid (ex F K 0 1):=h3
     clear h3
     go_wp2_with fail
     go_ret
     exact ⟨by rw [show R = _ from HR,dc_t ⟨HH0,HH1,(by first | rfl | trivial),HH3⟩];rfl,(show ∀ W,Below W2.heap.size W2 W→Below w.heap.size w W from HBL) _ B3⟩
    ·rw [dc_f h3]
     have HN9:Hid (¬ (ex F K 0 1)):=h3
     clear h3
     go_wp2_with fail
     go_ret
     exact ⟨by rw [show R = _ from HR,dc_f (fun g=>HN9 g.2.2.2)];rfl,(show ∀ W,Below W2.heap.size W2 W→Below w.heap.size w W from HBL) _ B3⟩
   ·have e0:((q:Int) == 1)=false:=bne (by omega)
    have h2:=hq0
    go_wp2_with fail
    go_ret
    exact ⟨by rw [show R = _ from HR,dc_f (fun g=>h2 g.2.2.1)];rfl,(show ∀ W,Below W2.heap.size W2 W→Below w.heap.size w W from HBL) _ B2⟩
  ·rw [dc_f h1]
   have HN9:Hid (¬ (nd nm p A 1 1)):=h1
   clear h1
   go_wp2_with fail
   go_ret
   exact ⟨by rw [show R = _ from HR,dc_f (fun g=>HN9 g.2.1)];rfl,(show ∀ W,Below W2.heap.size W2 W→Below w.heap.size w W from HBL) _ B2⟩
 ·rw [dc_f h0]
  have HN9:Hid (¬ (br ⟨3,f,t,l,o,m,g,x⟩ p false false false true)):=h0
  clear h0
  go_wp2_with fail
  go_ret
  exact ⟨by rw [show R = _ from HR,dc_f (fun g=>HN9 g.1)];rfl,(show ∀ W,Below W2.heap.size W2 W→Below w.heap.size w W from HBL) _ B1⟩
theorem st_4 {nm : ByteArray → Prop} {w : World} {v : Value} {n : Nat} {F : Nat → Gv} {vn vk : Value} {p : Nat} {A : Nat → ByteArray} {q : Nat} {K : Nat → Int} (s : Sx nm w v n F vn vk p A q K) (a : Fv) (hga : a.g < 18446744073709551616) (hk : a.k = 4) :
  Calls Tryz.prog 86 #[.agg #[v],fmv a vn vk] w fun e w'=>e = .returned (.bool (dc (br a p false false false true∧nd nm p A 1 1∧q=1∧kdk F K 0=36)))∧Below w.heap.size w w':=by
 have hs:=s.sy a hga 56 102
 obtain ⟨W2,hW2⟩:∃ W2,W2=(w.alloc (.cells #[v] 56)).alloc (.cells #[.int .i64 a.k,.int .i64 a.f,.int .i64 a.t,.int .i64 a.l,.int .i64 a.o,.int .i64 a.m,.float .f64 a.g,.string a.x,vn,vk] 102):=⟨_,rfl⟩
 rw [← hW2] at hs
 have HBL:Hid (∀ W,Below W2.heap.size W2 W→Below w.heap.size w W):=(fun W hb=>by rw [hW2] at hb;exact (bel2 w _ _).trans (hb.mono (bel2 w _ _).size):∀ W,_)
 have HSY:Hid (Sy nm W2 w.heap.size v n F a vn vk p A q K):=hs
 have hqI:(q:Int)≤1048576:=by have:=s.hq;omega
 obtain ⟨pn,cn,rfl,_⟩:=s.rn
 obtain ⟨pk,ck,rfl,_⟩:=s.rk
 obtain ⟨pf,cf,rfl,_⟩:=s.rf
 have HSQ:Hid (q≤1048576):=s.hq
 obtain ⟨R,hR⟩:∃ R,R=dc (br a p false false false true∧nd nm p A 1 1∧q=1∧kdk F K 0=36):=⟨_,rfl⟩
 have HR:Hid (R=dc (br a p false false false true∧nd nm p A 1 1∧q=1∧kdk F K 0=36)):=hR
 rw [← hR]
 clear hs s hR hga
 obtain ⟨k,f,t,l,o,m,g,x⟩:=a
 dsimp only at hk
 subst hk
 go_enter Tryz.func86,Tryz.ntmps86
 unfold fmv
 dsimp only at hW2
 go_wp2_with fail
 rw [← hW2]
 clear hW2
 have B0:Below W2.heap.size W2 W2:=Below.refl _ _
 obtain ⟨c0,c1,c2,c3,c4,c5,c6,c7,c8,c9⟩:=(show Sy nm W2 w.heap.size _ n F _ _ _ p A q K from HSY).bx
 have ct:=(show Sy nm W2 w.heap.size _ n F _ _ _ p A q K from HSY).ct
 dsimp only at c0 c1 c2 c3 c4 c5 c6 c7
 go_wp2_with fail
 refine ((show Sy nm W2 w.heap.size _ n F _ _ _ p A _ K from HSY).bare false false false true _ B0).mono ?_
 rintro e w1 ⟨rfl,B1⟩
 clear c0 c1 c2 c3 c4 c5 c6 c7 c8 c9 ct
 obtain ⟨c0,c1,c2,c3,c4,c5,c6,c7,c8,c9⟩:=(show Sy nm W2 w.heap.size _ n F _ _ _ p A _ K from HSY).bx.below B1
 have ct:=(B1.cell (p:=⟨w.heap.size,0,none⟩) (lt_of_cell (show Sy nm W2 w.heap.size _ n F _ _ _ p A _ K from HSY).ct)).trans (show Sy nm W2 w.heap.size _ n F _ _ _ p A _ K from HSY).ct
 dsimp only at c0 c1 c2 c3 c4 c5 c6 c7
 by_cases h0:br ⟨4,f,t,l,o,m,g,x⟩ p false false false true
 ·rw [dc_t h0]
  have HH0:Hid (br ⟨4,f,t,l,o,m,g,x⟩ p false false false true):=h0
  clear h0
  go_wp2_with fail
  refine ((show Sy nm W2 w.heap.size _ n F _ _ _ p A _ K from HSY).named 1 1 (by omega) (by omega) _ B1).mono ?_
  rintro e w2 ⟨rfl,B2⟩
  clear c0 c1 c2 c3 c4 c5 c6 c7 c8 c9 ct
  obtain ⟨c0,c1,c2,c3,c4,c5,c6,c7,c8,c9⟩:=(show Sy nm W2 w.heap.size _ n F _ _ _ p A _ K from HSY).bx.below B2
  have ct:=(B2.cell (p:=⟨w.heap.size,0,none⟩) (lt_of_cell (show Sy nm W2 w.heap.size _ n F _ _ _ p A _ K from HSY).ct)).trans (show Sy nm W2 w.heap.size _ n F _ _ _ p A _ K from HSY).ct
  dsimp only at c0 c1 c2 c3 c4 c5 c6 c7
  by_cases h1:nd nm p A 1 1
  ·rw [dc_t h1]
   have HH1:Hid (nd nm p A 1 1):=h1
   clear h1
   skip
   by_cases hq0:q=1
   ·subst hq0
    go_wp2_with fail
    refine ((show Sy nm W2 w.heap.size _ n F _ _ _ p A _ K from HSY).kid _ 0 (by first | rfl | omega) (by omega) _ B2).mono ?_
    rintro e w3 ⟨rfl,B3⟩
    clear c0 c1 c2 c3 c4 c5 c6 c7 c8 c9 ct
    obtain ⟨c0,c1,c2,c3,c4,c5,c6,c7,c8,c9⟩:=(show Sy nm W2 w.heap.size _ n F _ _ _ p A _ K from HSY).bx.below B3
    have ct:=(B3.cell (p:=⟨w.heap.size,0,none⟩) (lt_of_cell (show Sy nm W2 w.heap.size _ n F _ _ _ p A _ K from HSY).ct)).trans (show Sy nm W2 w.heap.size _ n F _ _ _ p A _ K from HSY).ct
    dsimp only at c0 c1 c2 c3 c4 c5 c6 c7
    by_cases h3:kdk F K 0=36
    ·have ek3:=beq1 h3
     have HH3:Hid (kdk F K 0=36):=h3
     clear h3
     go_wp2_with fail
     go_ret
     exact ⟨by rw [show R = _ from HR,dc_t ⟨HH0,HH1,(by first | rfl | trivial),HH3⟩];rfl,(show ∀ W,Below W2.heap.size W2 W→Below w.heap.size w W from HBL) _ B3⟩
    ·have ek3:=bne h3
     have HN9:Hid (¬ (kdk F K 0=36)):=h3
     clear h3
     go_wp2_with fail
     go_ret
     exact ⟨by rw [show R = _ from HR,dc_f (fun g=>HN9 g.2.2.2)];rfl,(show ∀ W,Below W2.heap.size W2 W→Below w.heap.size w W from HBL) _ B3⟩
   ·have e0:((q:Int) == 1)=false:=bne (by omega)
    have h2:=hq0
    go_wp2_with fail
    go_ret
    exact ⟨by rw [show R = _ from HR,dc_f (fun g=>h2 g.2.2.1)];rfl,(show ∀ W,Below W2.heap.size W2 W→Below w.heap.size w W from HBL) _ B2⟩
  ·rw [dc_f h1]
   have HN9:Hid (¬ (nd nm p A 1 1)):=h1
   clear h1
   go_wp2_with fail
   go_ret
   exact ⟨by rw [show R = _ from HR,dc_f (fun g=>HN9 g.2.1)];rfl,(show ∀ W,Below W2.heap.size W2 W→Below w.heap.size w W from HBL) _ B2⟩
 ·rw [dc_f h0]
  have HN9:Hid (¬ (br ⟨4,f,t,l,o,m,g,x⟩ p false false false true)):=h0
  clear h0
  go_wp2_with fail
  go_ret
  exact ⟨by rw [show R = _ from HR,dc_f (fun g=>HN9 g.1)];rfl,(show ∀ W,Below W2.heap.size W2 W→Below w.heap.size w W from HBL) _ B1⟩
theorem st_6 {nm : ByteArray → Prop} {w : World} {v : Value} {n : Nat} {F : Nat → Gv} {vn vk : Value} {p : Nat} {A : Nat → ByteArray} {q : Nat} {K : Nat → Int} (s : Sx nm w v n F vn vk p A q K) (a : Fv) (hga : a.g < 18446744073709551616) (hk : a.k = 6) :
  Calls Tryz.prog 86 #[.agg #[v],fmv a vn vk] w fun e w'=>e = .returned (.bool (dc (br a p false false false false∧q=1∧kdk F K 0=34)))∧Below w.heap.size w w':=by
 have hs:=s.sy a hga 56 102
 obtain ⟨W2,hW2⟩:∃ W2,W2=(w.alloc (.cells #[v] 56)).alloc (.cells #[.int .i64 a.k,.int .i64 a.f,.int .i64 a.t,.int .i64 a.l,.int .i64 a.o,.int .i64 a.m,.float .f64 a.g,.string a.x,vn,vk] 102):=⟨_,rfl⟩
 rw [← hW2] at hs
 have HBL:Hid (∀ W,Below W2.heap.size W2 W→Below w.heap.size w W):=(fun W hb=>by rw [hW2] at hb;exact (bel2 w _ _).trans (hb.mono (bel2 w _ _).size):∀ W,_)
 have HSY:Hid (Sy nm W2 w.heap.size v n F a vn vk p A q K):=hs
 have hqI:(q:Int)≤1048576:=by have:=s.hq;omega
 obtain ⟨pn,cn,rfl,_⟩:=s.rn
 obtain ⟨pk,ck,rfl,_⟩:=s.rk
 obtain ⟨pf,cf,rfl,_⟩:=s.rf
 have HSQ:Hid (q≤1048576):=s.hq
 obtain ⟨R,hR⟩:∃ R,R=dc (br a p false false false false∧q=1∧kdk F K 0=34):=⟨_,rfl⟩
 have HR:Hid (R=dc (br a p false false false false∧q=1∧kdk F K 0=34)):=hR
 rw [← hR]
 clear hs s hR hga
 obtain ⟨k,f,t,l,o,m,g,x⟩:=a
 dsimp only at hk
 subst hk
 go_enter Tryz.func86,Tryz.ntmps86
 unfold fmv
 dsimp only at hW2
 go_wp2_with fail
 rw [← hW2]
 clear hW2
 have B0:Below W2.heap.size W2 W2:=Below.refl _ _
 obtain ⟨c0,c1,c2,c3,c4,c5,c6,c7,c8,c9⟩:=(show Sy nm W2 w.heap.size _ n F _ _ _ p A q K from HSY).bx
 have ct:=(show Sy nm W2 w.heap.size _ n F _ _ _ p A q K from HSY).ct
 dsimp only at c0 c1 c2 c3 c4 c5 c6 c7
 go_wp2_with fail
 refine ((show Sy nm W2 w.heap.size _ n F _ _ _ p A _ K from HSY).bare false false false false _ B0).mono ?_
 rintro e w1 ⟨rfl,B1⟩
 clear c0 c1 c2 c3 c4 c5 c6 c7 c8 c9 ct
 obtain ⟨c0,c1,c2,c3,c4,c5,c6,c7,c8,c9⟩:=(show Sy nm W2 w.heap.size _ n F _ _ _ p A _ K from HSY).bx.below B1
 have ct:=(B1.cell (p:=⟨w.heap.size,0,none⟩) (lt_of_cell (show Sy nm W2 w.heap.size _ n F _ _ _ p A _ K from HSY).ct)).trans (show Sy nm W2 w.heap.size _ n F _ _ _ p A _ K from HSY).ct
 dsimp only at c0 c1 c2 c3 c4 c5 c6 c7
 by_cases h0:br ⟨6,f,t,l,o,m,g,x⟩ p false false false false
 ·rw [dc_t h0]
  have HH0:Hid (br ⟨6,f,t,l,o,m,g,x⟩ p false false false false):=h0
  clear h0
  skip
  by_cases hq0:q=1
  ·subst hq0
   go_wp2_with fail
   refine ((show Sy nm W2 w.heap.size _ n F _ _ _ p A _ K from HSY).kid _ 0 (by first | rfl | omega) (by omega) _ B1).mono ?_
   rintro e w2 ⟨rfl,B2⟩
   clear c0 c1 c2 c3 c4 c5 c6 c7 c8 c9 ct
   obtain ⟨c0,c1,c2,c3,c4,c5,c6,c7,c8,c9⟩:=(show Sy nm W2 w.heap.size _ n F _ _ _ p A _ K from HSY).bx.below B2
   have ct:=(B2.cell (p:=⟨w.heap.size,0,none⟩) (lt_of_cell (show Sy nm W2 w.heap.size _ n F _ _ _ p A _ K from HSY).ct)).trans (show Sy nm W2 w.heap.size _ n F _ _ _ p A _ K from HSY).ct
   dsimp only at c0 c1 c2 c3 c4 c5 c6 c7
   by_cases h2:kdk F K 0=34
   ·have ek2:=beq1 h2
    have HH2:Hid (kdk F K 0=34):=h2
    clear h2
    go_wp2_with fail
    go_ret
    exact ⟨by rw [show R = _ from HR,dc_t ⟨HH0,(by first | rfl | trivial),HH2⟩];rfl,(show ∀ W,Below W2.heap.size W2 W→Below w.heap.size w W from HBL) _ B2⟩
   ·have ek2:=bne h2
    have HN9:Hid (¬ (kdk F K 0=34)):=h2
    clear h2
    go_wp2_with fail
    go_ret
    exact ⟨by rw [show R = _ from HR,dc_f (fun g=>HN9 g.2.2)];rfl,(show ∀ W,Below W2.heap.size W2 W→Below w.heap.size w W from HBL) _ B2⟩
  ·have e0:((q:Int) == 1)=false:=bne (by omega)
   have h1:=hq0
   go_wp2_with fail
   go_ret
   exact ⟨by rw [show R = _ from HR,dc_f (fun g=>h1 g.2.1)];rfl,(show ∀ W,Below W2.heap.size W2 W→Below w.heap.size w W from HBL) _ B1⟩
 ·rw [dc_f h0]
  have HN9:Hid (¬ (br ⟨6,f,t,l,o,m,g,x⟩ p false false false false)):=h0
  clear h0
  go_wp2_with fail
  go_ret
  exact ⟨by rw [show R = _ from HR,dc_f (fun g=>HN9 g.1)];rfl,(show ∀ W,Below W2.heap.size W2 W→Below w.heap.size w W from HBL) _ B1⟩
theorem st_16 {nm : ByteArray → Prop} {w : World} {v : Value} {n : Nat} {F : Nat → Gv} {vn vk : Value} {p : Nat} {A : Nat → ByteArray} {q : Nat} {K : Nat → Int} (s : Sx nm w v n F vn vk p A q K) (a : Fv) (hga : a.g < 18446744073709551616) (hk : a.k = 16) :
  Calls Tryz.prog 86 #[.agg #[v],fmv a vn vk] w fun e w'=>e = .returned (.bool (dc (br a p false false false false∧q=1∧kdk F K 0=34)))∧Below w.heap.size w w':=by
 have hs:=s.sy a hga 56 102
 obtain ⟨W2,hW2⟩:∃ W2,W2=(w.alloc (.cells #[v] 56)).alloc (.cells #[.int .i64 a.k,.int .i64 a.f,.int .i64 a.t,.int .i64 a.l,.int .i64 a.o,.int .i64 a.m,.float .f64 a.g,.string a.x,vn,vk] 102):=⟨_,rfl⟩
 rw [← hW2] at hs
 have HBL:Hid (∀ W,Below W2.heap.size W2 W→Below w.heap.size w W):=(fun W hb=>by rw [hW2] at hb;exact (bel2 w _ _).trans (hb.mono (bel2 w _ _).size):∀ W,_)
 have HSY:Hid (Sy nm W2 w.heap.size v n F a vn vk p A q K):=hs
 have hqI:(q:Int)≤1048576:=by have:=s.hq;omega
 obtain ⟨pn,cn,rfl,_⟩:=s.rn
 obtain ⟨pk,ck,rfl,_⟩:=s.rk
 obtain ⟨pf,cf,rfl,_⟩:=s.rf
 have HSQ:Hid (q≤1048576):=s.hq
 obtain ⟨R,hR⟩:∃ R,R=dc (br a p false false false false∧q=1∧kdk F K 0=34):=⟨_,rfl⟩
 have HR:Hid (R=dc (br a p false false false false∧q=1∧kdk F K 0=34)):=hR
 rw [← hR]
 clear hs s hR hga
 obtain ⟨k,f,t,l,o,m,g,x⟩:=a
 dsimp only at hk
 subst hk
 go_enter Tryz.func86,Tryz.ntmps86
 unfold fmv
 dsimp only at hW2
 go_wp2_with fail
 rw [← hW2]
 clear hW2
 have B0:Below W2.heap.size W2 W2:=Below.refl _ _
 obtain ⟨c0,c1,c2,c3,c4,c5,c6,c7,c8,c9⟩:=(show Sy nm W2 w.heap.size _ n F _ _ _ p A q K from HSY).bx
 have ct:=(show Sy nm W2 w.heap.size _ n F _ _ _ p A q K from HSY).ct
 dsimp only at c0 c1 c2 c3 c4 c5 c6 c7
 go_wp2_with fail
 refine ((show Sy nm W2 w.heap.size _ n F _ _ _ p A _ K from HSY).bare false false false false _ B0).mono ?_
 rintro e w1 ⟨rfl,B1⟩
 clear c0 c1 c2 c3 c4 c5 c6 c7 c8 c9 ct
 obtain ⟨c0,c1,c2,c3,c4,c5,c6,c7,c8,c9⟩:=(show Sy nm W2 w.heap.size _ n F _ _ _ p A _ K from HSY).bx.below B1
 have ct:=(B1.cell (p:=⟨w.heap.size,0,none⟩) (lt_of_cell (show Sy nm W2 w.heap.size _ n F _ _ _ p A _ K from HSY).ct)).trans (show Sy nm W2 w.heap.size _ n F _ _ _ p A _ K from HSY).ct
 dsimp only at c0 c1 c2 c3 c4 c5 c6 c7
 by_cases h0:br ⟨16,f,t,l,o,m,g,x⟩ p false false false false
 ·rw [dc_t h0]
  have HH0:Hid (br ⟨16,f,t,l,o,m,g,x⟩ p false false false false):=h0
  clear h0
  skip
  by_cases hq0:q=1
  ·subst hq0
   go_wp2_with fail
   refine ((show Sy nm W2 w.heap.size _ n F _ _ _ p A _ K from HSY).kid _ 0 (by first | rfl | omega) (by omega) _ B1).mono ?_
   rintro e w2 ⟨rfl,B2⟩
   clear c0 c1 c2 c3 c4 c5 c6 c7 c8 c9 ct
   obtain ⟨c0,c1,c2,c3,c4,c5,c6,c7,c8,c9⟩:=(show Sy nm W2 w.heap.size _ n F _ _ _ p A _ K from HSY).bx.below B2
   have ct:=(B2.cell (p:=⟨w.heap.size,0,none⟩) (lt_of_cell (show Sy nm W2 w.heap.size _ n F _ _ _ p A _ K from HSY).ct)).trans (show Sy nm W2 w.heap.size _ n F _ _ _ p A _ K from HSY).ct
   dsimp only at c0 c1 c2 c3 c4 c5 c6 c7
   by_cases h2:kdk F K 0=34
   ·have ek2:=beq1 h2
    have HH2:Hid (kdk F K 0=34):=h2
    clear h2
    go_wp2_with fail
    go_ret
    exact ⟨by rw [show R = _ from HR,dc_t ⟨HH0,(by first | rfl | trivial),HH2⟩];rfl,(show ∀ W,Below W2.heap.size W2 W→Below w.heap.size w W from HBL) _ B2⟩
   ·have ek2:=bne h2
    have HN9:Hid (¬ (kdk F K 0=34)):=h2
    clear h2
    go_wp2_with fail
    go_ret
    exact ⟨by rw [show R = _ from HR,dc_f (fun g=>HN9 g.2.2)];rfl,(show ∀ W,Below W2.heap.size W2 W→Below w.heap.size w W from HBL) _ B2⟩
  ·have e0:((q:Int) == 1)=false:=bne (by omega)
   have h1:=hq0
   go_wp2_with fail
   go_ret
   exact ⟨by rw [show R = _ from HR,dc_f (fun g=>h1 g.2.1)];rfl,(show ∀ W,Below W2.heap.size W2 W→Below w.heap.size w W from HBL) _ B1⟩
 ·rw [dc_f h0]
  have HN9:Hid (¬ (br ⟨16,f,t,l,o,m,g,x⟩ p false false false false)):=h0
  clear h0
  go_wp2_with fail
  go_ret
  exact ⟨by rw [show R = _ from HR,dc_f (fun g=>HN9 g.1)];rfl,(show ∀ W,Below W2.heap.size W2 W→Below w.heap.size w W from HBL) _ B1⟩
theorem st_8 {nm : ByteArray → Prop} {w : World} {v : Value} {n : Nat} {F : Nat → Gv} {vn vk : Value} {p : Nat} {A : Nat → ByteArray} {q : Nat} {K : Nat → Int} (s : Sx nm w v n F vn vk p A q K) (a : Fv) (hga : a.g < 18446744073709551616) (hk : a.k = 8) :
  Calls Tryz.prog 86 #[.agg #[v],fmv a vn vk] w fun e w'=>e = .returned (.bool (dc (br a p false false false false∧q=2∧ex F K 0 1∧kdk F K 1=1)))∧Below w.heap.size w w':=by
 have hs:=s.sy a hga 56 102
 obtain ⟨W2,hW2⟩:∃ W2,W2=(w.alloc (.cells #[v] 56)).alloc (.cells #[.int .i64 a.k,.int .i64 a.f,.int .i64 a.t,.int .i64 a.l,.int .i64 a.o,.int .i64 a.m,.float .f64 a.g,.string a.x,vn,vk] 102):=⟨_,rfl⟩
 rw [← hW2] at hs
 have HBL:Hid (∀ W,Below W2.heap.size W2 W→Below w.heap.size w W):=(fun W hb=>by rw [hW2] at hb;exact (bel2 w _ _).trans (hb.mono (bel2 w _ _).size):∀ W,_)
 have HSY:Hid (Sy nm W2 w.heap.size v n F a vn vk p A q K):=hs
 have hqI:(q:Int)≤1048576:=by have:=s.hq;omega
 obtain ⟨pn,cn,rfl,_⟩:=s.rn
 obtain ⟨pk,ck,rfl,_⟩:=s.rk
 obtain ⟨pf,cf,rfl,_⟩:=s.rf
 have HSQ:Hid (q≤1048576):=s.hq
 obtain ⟨R,hR⟩:∃ R,R=dc (br a p false false false false∧q=2∧ex F K 0 1∧kdk F K 1=1):=⟨_,rfl⟩
 have HR:Hid (R=dc (br a p false false false false∧q=2∧ex F K 0 1∧kdk F K 1=1)):=hR
 rw [← hR]
 clear hs s hR hga
 obtain ⟨k,f,t,l,o,m,g,x⟩:=a
 dsimp only at hk
 subst hk
 go_enter Tryz.func86,Tryz.ntmps86
 unfold fmv
 dsimp only at hW2
 go_wp2_with fail
 rw [← hW2]
 clear hW2
 have B0:Below W2.heap.size W2 W2:=Below.refl _ _
 obtain ⟨c0,c1,c2,c3,c4,c5,c6,c7,c8,c9⟩:=(show Sy nm W2 w.heap.size _ n F _ _ _ p A q K from HSY).bx
 have ct:=(show Sy nm W2 w.heap.size _ n F _ _ _ p A q K from HSY).ct
 dsimp only at c0 c1 c2 c3 c4 c5 c6 c7
 go_wp2_with fail
 refine ((show Sy nm W2 w.heap.size _ n F _ _ _ p A _ K from HSY).bare false false false false _ B0).mono ?_
 rintro e w1 ⟨rfl,B1⟩
 clear c0 c1 c2 c3 c4 c5 c6 c7 c8 c9 ct
 obtain ⟨c0,c1,c2,c3,c4,c5,c6,c7,c8,c9⟩:=(show Sy nm W2 w.heap.size _ n F _ _ _ p A _ K from HSY).bx.below B1
 have ct:=(B1.cell (p:=⟨w.heap.size,0,none⟩) (lt_of_cell (show Sy nm W2 w.heap.size _ n F _ _ _ p A _ K from HSY).ct)).trans (show Sy nm W2 w.heap.size _ n F _ _ _ p A _ K from HSY).ct
 dsimp only at c0 c1 c2 c3 c4 c5 c6 c7
 by_cases h0:br ⟨8,f,t,l,o,m,g,x⟩ p false false false false
 ·rw [dc_t h0]
  have HH0:Hid (br ⟨8,f,t,l,o,m,g,x⟩ p false false false false):=h0
  clear h0
  skip
  by_cases hq0:q=2
  ·subst hq0
   go_wp2_with fail
   refine ((show Sy nm W2 w.heap.size _ n F _ _ _ p A _ K from HSY).exprs _ _ 0 1 rfl (by first | rfl | omega) (by omega) (by omega) _ B1).mono ?_
   rintro e w2 ⟨rfl,B2⟩
   clear c0 c1 c2 c3 c4 c5 c6 c7 c8 c9 ct
   obtain ⟨c0,c1,c2,c3,c4,c5,c6,c7,c8,c9⟩:=(show Sy nm W2 w.heap.size _ n F _ _ _ p A _ K from HSY).bx.below B2
   have ct:=(B2.cell (p:=⟨w.heap.size,0,none⟩) (lt_of_cell (show Sy nm W2 w.heap.size _ n F _ _ _ p A _ K from HSY).ct)).trans (show Sy nm W2 w.heap.size _ n F _ _ _ p A _ K from HSY).ct
   dsimp only at c0 c1 c2 c3 c4 c5 c6 c7
   by_cases h2:ex F K 0 1
   ·rw [dc_t h2]
    have HH2:Hid (ex F K 0 1):=h2
    clear h2
    go_wp2_with fail
    refine ((show Sy nm W2 w.heap.size _ n F _ _ _ p A _ K from HSY).kid _ 1 (by first | rfl | omega) (by omega) _ B2).mono ?_
    rintro e w3 ⟨rfl,B3⟩
    clear c0 c1 c2 c3 c4 c5 c6 c7 c8 c9 ct
    obtain ⟨c0,c1,c2,c3,c4,c5,c6,c7,c8,c9⟩:=(show Sy nm W2 w.heap.size _ n F _ _ _ p A _ K from HSY).bx.below B3
    have ct:=(B3.cell (p:=⟨w.heap.size,0,none⟩) (lt_of_cell (show Sy nm W2 w.heap.size _ n F _ _ _ p A _ K from HSY).ct)).trans (show Sy nm W2 w.heap.size _ n F _ _ _ p A _ K from HSY).ct
    dsimp only at c0 c1 c2 c3 c4 c5 c6 c7
    by_cases h3:kdk F K 1=1
    ·have ek3:=beq1 h3
     have HH3:Hid (kdk F K 1=1):=h3
     clear h3
     go_wp2_with fail
     go_ret
     exact ⟨by rw [show R = _ from HR,dc_t ⟨HH0,(by first | rfl | trivial),HH2,HH3⟩];rfl,(show ∀ W,Below W2.heap.size W2 W→Below w.heap.size w W from HBL) _ B3⟩
    ·have ek3:=bne h3
     have HN9:Hid (¬ (kdk F K 1=1)):=h3
     clear h3
     go_wp2_with fail
     go_ret
     exact ⟨by rw [show R = _ from HR,dc_f (fun g=>HN9 g.2.2.2)];rfl,(show ∀ W,Below W2.heap.size W2 W→Below w.heap.size w W from HBL) _ B3⟩
   ·rw [dc_f h2]
    have HN9:Hid (¬ (ex F K 0 1)):=h2
    clear h2
    go_wp2_with fail
    go_ret
    exact ⟨by rw [show R = _ from HR,dc_f (fun g=>HN9 g.2.2.1)];rfl,(show ∀ W,Below W2.heap.size W2 W→Below w.heap.size w W from HBL) _ B2⟩
  ·have e0:((q:Int) == 2)=false:=bne (by omega)
   have h1:=hq0
   go_wp2_with fail
   go_ret
   exact ⟨by rw [show R = _ from HR,dc_f (fun g=>h1 g.2.1)];rfl,(show ∀ W,Below W2.heap.size W2 W→Below w.heap.size w W from HBL) _ B1⟩
 ·rw [dc_f h0]
  have HN9:Hid (¬ (br ⟨8,f,t,l,o,m,g,x⟩ p false false false false)):=h0
  clear h0
  go_wp2_with fail
  go_ret
  exact ⟨by rw [show R = _ from HR,dc_f (fun g=>HN9 g.1)];rfl,(show ∀ W,Below W2.heap.size W2 W→Below w.heap.size w W from HBL) _ B1⟩
theorem st_9 {nm : ByteArray → Prop} {w : World} {v : Value} {n : Nat} {F : Nat → Gv} {vn vk : Value} {p : Nat} {A : Nat → ByteArray} {q : Nat} {K : Nat → Int} (s : Sx nm w v n F vn vk p A q K) (a : Fv) (hga : a.g < 18446744073709551616) (hk : a.k = 9) :
  Calls Tryz.prog 86 #[.agg #[v],fmv a vn vk] w fun e w'=>e = .returned (.bool (dc (br a p false false false true∧nd nm p A 1 1∧(q=3∨q=4)∧ex F K 0 (q - 1)∧kdk F K (q - 1)=1)))∧Below w.heap.size w w':=by
 have hs:=s.sy a hga 56 102
 obtain ⟨W2,hW2⟩:∃ W2,W2=(w.alloc (.cells #[v] 56)).alloc (.cells #[.int .i64 a.k,.int .i64 a.f,.int .i64 a.t,.int .i64 a.l,.int .i64 a.o,.int .i64 a.m,.float .f64 a.g,.string a.x,vn,vk] 102):=⟨_,rfl⟩
 rw [← hW2] at hs
 have HBL:Hid (∀ W,Below W2.heap.size W2 W→Below w.heap.size w W):=(fun W hb=>by rw [hW2] at hb;exact (bel2 w _ _).trans (hb.mono (bel2 w _ _).size):∀ W,_)
 have HSY:Hid (Sy nm W2 w.heap.size v n F a vn vk p A q K):=hs
 have hqI:(q:Int)≤1048576:=by have:=s.hq;omega
 obtain ⟨pn,cn,rfl,_⟩:=s.rn
 obtain ⟨pk,ck,rfl,_⟩:=s.rk
 obtain ⟨pf,cf,rfl,_⟩:=s.rf
 have HSQ:Hid (q≤1048576):=s.hq
 obtain ⟨R,hR⟩:∃ R,R=dc (br a p false false false true∧nd nm p A 1 1∧(q=3∨q=4)∧ex F K 0 (q - 1)∧kdk F K (q - 1)=1):=⟨_,rfl⟩
 have HR:Hid (R=dc (br a p false false false true∧nd nm p A 1 1∧(q=3∨q=4)∧ex F K 0 (q - 1)∧kdk F K (q - 1)=1)):=hR
 rw [← hR]
 clear hs s hR hga
 obtain ⟨k,f,t,l,o,m,g,x⟩:=a
 dsimp only at hk
 subst hk
 go_enter Tryz.func86,Tryz.ntmps86
 unfold fmv
 dsimp only at hW2
 go_wp2_with fail
 rw [← hW2]
 clear hW2
 have B0:Below W2.heap.size W2 W2:=Below.refl _ _
 obtain ⟨c0,c1,c2,c3,c4,c5,c6,c7,c8,c9⟩:=(show Sy nm W2 w.heap.size _ n F _ _ _ p A q K from HSY).bx
 have ct:=(show Sy nm W2 w.heap.size _ n F _ _ _ p A q K from HSY).ct
 dsimp only at c0 c1 c2 c3 c4 c5 c6 c7
 go_wp2_with fail
 refine ((show Sy nm W2 w.heap.size _ n F _ _ _ p A _ K from HSY).bare false false false true _ B0).mono ?_
 rintro e w1 ⟨rfl,B1⟩
 clear c0 c1 c2 c3 c4 c5 c6 c7 c8 c9 ct
 obtain ⟨c0,c1,c2,c3,c4,c5,c6,c7,c8,c9⟩:=(show Sy nm W2 w.heap.size _ n F _ _ _ p A _ K from HSY).bx.below B1
 have ct:=(B1.cell (p:=⟨w.heap.size,0,none⟩) (lt_of_cell (show Sy nm W2 w.heap.size _ n F _ _ _ p A _ K from HSY).ct)).trans (show Sy nm W2 w.heap.size _ n F _ _ _ p A _ K from HSY).ct
 dsimp only at c0 c1 c2 c3 c4 c5 c6 c7
 by_cases h0:br ⟨9,f,t,l,o,m,g,x⟩ p false false false true
 ·rw [dc_t h0]
  have HH0:Hid (br ⟨9,f,t,l,o,m,g,x⟩ p false false false true):=h0
  clear h0
  go_wp2_with fail
  refine ((show Sy nm W2 w.heap.size _ n F _ _ _ p A _ K from HSY).named 1 1 (by omega) (by omega) _ B1).mono ?_
  rintro e w2 ⟨rfl,B2⟩
  clear c0 c1 c2 c3 c4 c5 c6 c7 c8 c9 ct
  obtain ⟨c0,c1,c2,c3,c4,c5,c6,c7,c8,c9⟩:=(show Sy nm W2 w.heap.size _ n F _ _ _ p A _ K from HSY).bx.below B2
  have ct:=(B2.cell (p:=⟨w.heap.size,0,none⟩) (lt_of_cell (show Sy nm W2 w.heap.size _ n F _ _ _ p A _ K from HSY).ct)).trans (show Sy nm W2 w.heap.size _ n F _ _ _ p A _ K from HSY).ct
  dsimp only at c0 c1 c2 c3 c4 c5 c6 c7
  by_cases h1:nd nm p A 1 1
  ·rw [dc_t h1]
   have HH1:Hid (nd nm p A 1 1):=h1
   clear h1
   skip
   by_cases hq0:q=3
   ·subst hq0
    go_wp2_with fail
    refine ((show Sy nm W2 w.heap.size _ n F _ _ _ p A _ K from HSY).exprs _ _ 0 2 rfl (by first | rfl | omega) (by omega) (by omega) _ B2).mono ?_
    rintro e w3 ⟨rfl,B3⟩
    clear c0 c1 c2 c3 c4 c5 c6 c7 c8 c9 ct
    obtain ⟨c0,c1,c2,c3,c4,c5,c6,c7,c8,c9⟩:=(show Sy nm W2 w.heap.size _ n F _ _ _ p A _ K from HSY).bx.below B3
    have ct:=(B3.cell (p:=⟨w.heap.size,0,none⟩) (lt_of_cell (show Sy nm W2 w.heap.size _ n F _ _ _ p A _ K from HSY).ct)).trans (show Sy nm W2 w.heap.size _ n F _ _ _ p A _ K from HSY).ct
    dsimp only at c0 c1 c2 c3 c4 c5 c6 c7
    by_cases h3:ex F K 0 2
    ·rw [dc_t h3]
     have HH3:Hid (ex F K 0 2):=h3
     clear h3
     go_wp2_with fail
     refine ((show Sy nm W2 w.heap.size _ n F _ _ _ p A _ K from HSY).kid _ 2 (by first | rfl | omega) (by omega) _ B3).mono ?_
     rintro e w4 ⟨rfl,B4⟩
     clear c0 c1 c2 c3 c4 c5 c6 c7 c8 c9 ct
     obtain ⟨c0,c1,c2,c3,c4,c5,c6,c7,c8,c9⟩:=(show Sy nm W2 w.heap.size _ n F _ _ _ p A _ K from HSY).bx.below B4
     have ct:=(B4.cell (p:=⟨w.heap.size,0,none⟩) (lt_of_cell (show Sy nm W2 w.heap.size _ n F _ _ _ p A _ K from HSY).ct)).trans (show Sy nm W2 w.heap.size _ n F _ _ _ p A _ K from HSY).ct
     dsimp only at c0 c1 c2 c3 c4 c5 c6 c7
     by_cases h4:kdk F K 2=1
     ·have ek4:=beq1 h4
      have HH4:Hid (kdk F K 2=1):=h4
      clear h4
      go_wp2_with fail
      go_ret
      exact ⟨by rw [show R = _ from HR,dc_t ⟨HH0,HH1,(by first | exact Or.inl rfl | exact Or.inr rfl | trivial),HH3,HH4⟩];rfl,(show ∀ W,Below W2.heap.size W2 W→Below w.heap.size w W from HBL) _ B4⟩
     ·have ek4:=bne h4
      have HN9:Hid (¬ (kdk F K 2=1)):=h4
      clear h4
      go_wp2_with fail
      go_ret
      exact ⟨by rw [show R = _ from HR,dc_f (fun g=>HN9 g.2.2.2.2)];rfl,(show ∀ W,Below W2.heap.size W2 W→Below w.heap.size w W from HBL) _ B4⟩
    ·rw [dc_f h3]
     have HN9:Hid (¬ (ex F K 0 2)):=h3
     clear h3
     go_wp2_with fail
     go_ret
     exact ⟨by rw [show R = _ from HR,dc_f (fun g=>HN9 g.2.2.2.1)];rfl,(show ∀ W,Below W2.heap.size W2 W→Below w.heap.size w W from HBL) _ B3⟩
   ·have e0:((q:Int) == 3)=false:=bne (by omega)
    by_cases hq1:q=4
    ·subst hq1
     go_wp2_with fail
     refine ((show Sy nm W2 w.heap.size _ n F _ _ _ p A _ K from HSY).exprs _ _ 0 3 rfl (by first | rfl | omega) (by omega) (by omega) _ B2).mono ?_
     rintro e w3 ⟨rfl,B3⟩
     clear c0 c1 c2 c3 c4 c5 c6 c7 c8 c9 ct
     obtain ⟨c0,c1,c2,c3,c4,c5,c6,c7,c8,c9⟩:=(show Sy nm W2 w.heap.size _ n F _ _ _ p A _ K from HSY).bx.below B3
     have ct:=(B3.cell (p:=⟨w.heap.size,0,none⟩) (lt_of_cell (show Sy nm W2 w.heap.size _ n F _ _ _ p A _ K from HSY).ct)).trans (show Sy nm W2 w.heap.size _ n F _ _ _ p A _ K from HSY).ct
     dsimp only at c0 c1 c2 c3 c4 c5 c6 c7
     by_cases h3:ex F K 0 3
     ·rw [dc_t h3]
      have HH3:Hid (ex F K 0 3):=h3
      clear h3
      go_wp2_with fail
      refine ((show Sy nm W2 w.heap.size _ n F _ _ _ p A _ K from HSY).kid _ 3 (by first | rfl | omega) (by omega) _ B3).mono ?_
      rintro e w4 ⟨rfl,B4⟩
      clear c0 c1 c2 c3 c4 c5 c6 c7 c8 c9 ct
      obtain ⟨c0,c1,c2,c3,c4,c5,c6,c7,c8,c9⟩:=(show Sy nm W2 w.heap.size _ n F _ _ _ p A _ K from HSY).bx.below B4
      have ct:=(B4.cell (p:=⟨w.heap.size,0,none⟩) (lt_of_cell (show Sy nm W2 w.heap.size _ n F _ _ _ p A _ K from HSY).ct)).trans (show Sy nm W2 w.heap.size _ n F _ _ _ p A _ K from HSY).ct
      dsimp only at c0 c1 c2 c3 c4 c5 c6 c7
      by_cases h4:kdk F K 3=1
      ·have ek4:=beq1 h4
       have HH4:Hid (kdk F K 3=1):=h4
       clear h4
       go_wp2_with fail
       go_ret
       exact ⟨by rw [show R = _ from HR,dc_t ⟨HH0,HH1,(by first | exact Or.inl rfl | exact Or.inr rfl | trivial),HH3,HH4⟩];rfl,(show ∀ W,Below W2.heap.size W2 W→Below w.heap.size w W from HBL) _ B4⟩
      ·have ek4:=bne h4
       have HN9:Hid (¬ (kdk F K 3=1)):=h4
       clear h4
       go_wp2_with fail
       go_ret
       exact ⟨by rw [show R = _ from HR,dc_f (fun g=>HN9 g.2.2.2.2)];rfl,(show ∀ W,Below W2.heap.size W2 W→Below w.heap.size w W from HBL) _ B4⟩
     ·rw [dc_f h3]
      have HN9:Hid (¬ (ex F K 0 3)):=h3
      clear h3
      go_wp2_with fail
      go_ret
      exact ⟨by rw [show R = _ from HR,dc_f (fun g=>HN9 g.2.2.2.1)];rfl,(show ∀ W,Below W2.heap.size W2 W→Below w.heap.size w W from HBL) _ B3⟩
    ·have e1:((q:Int) == 4)=false:=bne (by omega)
     have h2:¬ (q=3∨q=4):=by omega
     clear hq0 hq1
     go_wp2_with fail
     go_ret
     exact ⟨by rw [show R = _ from HR,dc_f (fun g=>h2 g.2.2.1)];rfl,(show ∀ W,Below W2.heap.size W2 W→Below w.heap.size w W from HBL) _ B2⟩
  ·rw [dc_f h1]
   have HN9:Hid (¬ (nd nm p A 1 1)):=h1
   clear h1
   go_wp2_with fail
   go_ret
   exact ⟨by rw [show R = _ from HR,dc_f (fun g=>HN9 g.2.1)];rfl,(show ∀ W,Below W2.heap.size W2 W→Below w.heap.size w W from HBL) _ B2⟩
 ·rw [dc_f h0]
  have HN9:Hid (¬ (br ⟨9,f,t,l,o,m,g,x⟩ p false false false true)):=h0
  clear h0
  go_wp2_with fail
  go_ret
  exact ⟨by rw [show R = _ from HR,dc_f (fun g=>HN9 g.1)];rfl,(show ∀ W,Below W2.heap.size W2 W→Below w.heap.size w W from HBL) _ B1⟩
theorem st_10 {nm : ByteArray → Prop} {w : World} {v : Value} {n : Nat} {F : Nat → Gv} {vn vk : Value} {p : Nat} {A : Nat → ByteArray} {q : Nat} {K : Nat → Int} (s : Sx nm w v n F vn vk p A q K) (a : Fv) (hga : a.g < 18446744073709551616) (hk : a.k = 10) :
  Calls Tryz.prog 86 #[.agg #[v],fmv a vn vk] w fun e w'=>e = .returned (.bool (dc (br a p false false false true∧nd nm p A 1 200∧q=2∧ex F K 0 1∧kdk F K 1=1)))∧Below w.heap.size w w':=by
 have hs:=s.sy a hga 56 102
 obtain ⟨W2,hW2⟩:∃ W2,W2=(w.alloc (.cells #[v] 56)).alloc (.cells #[.int .i64 a.k,.int .i64 a.f,.int .i64 a.t,.int .i64 a.l,.int .i64 a.o,.int .i64 a.m,.float .f64 a.g,.string a.x,vn,vk] 102):=⟨_,rfl⟩
 rw [← hW2] at hs
 have HBL:Hid (∀ W,Below W2.heap.size W2 W→Below w.heap.size w W):=(fun W hb=>by rw [hW2] at hb;exact (bel2 w _ _).trans (hb.mono (bel2 w _ _).size):∀ W,_)
 have HSY:Hid (Sy nm W2 w.heap.size v n F a vn vk p A q K):=hs
 have hqI:(q:Int)≤1048576:=by have:=s.hq;omega
 obtain ⟨pn,cn,rfl,_⟩:=s.rn
 obtain ⟨pk,ck,rfl,_⟩:=s.rk
 obtain ⟨pf,cf,rfl,_⟩:=s.rf
 have HSQ:Hid (q≤1048576):=s.hq
 obtain ⟨R,hR⟩:∃ R,R=dc (br a p false false false true∧nd nm p A 1 200∧q=2∧ex F K 0 1∧kdk F K 1=1):=⟨_,rfl⟩
 have HR:Hid (R=dc (br a p false false false true∧nd nm p A 1 200∧q=2∧ex F K 0 1∧kdk F K 1=1)):=hR
 rw [← hR]
 clear hs s hR hga
 obtain ⟨k,f,t,l,o,m,g,x⟩:=a
 dsimp only at hk
 subst hk
 go_enter Tryz.func86,Tryz.ntmps86
 unfold fmv
 dsimp only at hW2
 go_wp2_with fail
 rw [← hW2]
 clear hW2
 have B0:Below W2.heap.size W2 W2:=Below.refl _ _
 obtain ⟨c0,c1,c2,c3,c4,c5,c6,c7,c8,c9⟩:=(show Sy nm W2 w.heap.size _ n F _ _ _ p A q K from HSY).bx
 have ct:=(show Sy nm W2 w.heap.size _ n F _ _ _ p A q K from HSY).ct
 dsimp only at c0 c1 c2 c3 c4 c5 c6 c7
 go_wp2_with fail
 refine ((show Sy nm W2 w.heap.size _ n F _ _ _ p A _ K from HSY).bare false false false true _ B0).mono ?_
 rintro e w1 ⟨rfl,B1⟩
 clear c0 c1 c2 c3 c4 c5 c6 c7 c8 c9 ct
 obtain ⟨c0,c1,c2,c3,c4,c5,c6,c7,c8,c9⟩:=(show Sy nm W2 w.heap.size _ n F _ _ _ p A _ K from HSY).bx.below B1
 have ct:=(B1.cell (p:=⟨w.heap.size,0,none⟩) (lt_of_cell (show Sy nm W2 w.heap.size _ n F _ _ _ p A _ K from HSY).ct)).trans (show Sy nm W2 w.heap.size _ n F _ _ _ p A _ K from HSY).ct
 dsimp only at c0 c1 c2 c3 c4 c5 c6 c7
 by_cases h0:br ⟨10,f,t,l,o,m,g,x⟩ p false false false true
 ·rw [dc_t h0]
  have HH0:Hid (br ⟨10,f,t,l,o,m,g,x⟩ p false false false true):=h0
  clear h0
  go_wp2_with fail
  refine ((show Sy nm W2 w.heap.size _ n F _ _ _ p A _ K from HSY).named 1 200 (by omega) (by omega) _ B1).mono ?_
  rintro e w2 ⟨rfl,B2⟩
  clear c0 c1 c2 c3 c4 c5 c6 c7 c8 c9 ct
  obtain ⟨c0,c1,c2,c3,c4,c5,c6,c7,c8,c9⟩:=(show Sy nm W2 w.heap.size _ n F _ _ _ p A _ K from HSY).bx.below B2
  have ct:=(B2.cell (p:=⟨w.heap.size,0,none⟩) (lt_of_cell (show Sy nm W2 w.heap.size _ n F _ _ _ p A _ K from HSY).ct)).trans (show Sy nm W2 w.heap.size _ n F _ _ _ p A _ K from HSY).ct
  dsimp only at c0 c1 c2 c3 c4 c5 c6 c7
  by_cases h1:nd nm p A 1 200
  ·rw [dc_t h1]
   have HH1:Hid (nd nm p A 1 200):=h1
   clear h1
   skip
   by_cases hq0:q=2
   ·subst hq0
    go_wp2_with fail
    refine ((show Sy nm W2 w.heap.size _ n F _ _ _ p A _ K from HSY).exprs _ _ 0 1 rfl (by first | rfl | omega) (by omega) (by omega) _ B2).mono ?_
    rintro e w3 ⟨rfl,B3⟩
    clear c0 c1 c2 c3 c4 c5 c6 c7 c8 c9 ct
    obtain ⟨c0,c1,c2,c3,c4,c5,c6,c7,c8,c9⟩:=(show Sy nm W2 w.heap.size _ n F _ _ _ p A _ K from HSY).bx.below B3
    have ct:=(B3.cell (p:=⟨w.heap.size,0,none⟩) (lt_of_cell (show Sy nm W2 w.heap.size _ n F _ _ _ p A _ K from HSY).ct)).trans (show Sy nm W2 w.heap.size _ n F _ _ _ p A _ K from HSY).ct
    dsimp only at c0 c1 c2 c3 c4 c5 c6 c7
    by_cases h3:ex F K 0 1
    ·rw [dc_t h3]
     have HH3:Hid (ex F K 0 1):=h3
     clear h3
     go_wp2_with fail
     refine ((show Sy nm W2 w.heap.size _ n F _ _ _ p A _ K from HSY).kid _ 1 (by first | rfl | omega) (by omega) _ B3).mono ?_
     rintro e w4 ⟨rfl,B4⟩
     clear c0 c1 c2 c3 c4 c5 c6 c7 c8 c9 ct
     obtain ⟨c0,c1,c2,c3,c4,c5,c6,c7,c8,c9⟩:=(show Sy nm W2 w.heap.size _ n F _ _ _ p A _ K from HSY).bx.below B4
     have ct:=(B4.cell (p:=⟨w.heap.size,0,none⟩) (lt_of_cell (show Sy nm W2 w.heap.size _ n F _ _ _ p A _ K from HSY).ct)).trans (show Sy nm W2 w.heap.size _ n F _ _ _ p A _ K from HSY).ct
     dsimp only at c0 c1 c2 c3 c4 c5 c6 c7
     by_cases h4:kdk F K 1=1
     ·have ek4:=beq1 h4
      have HH4:Hid (kdk F K 1=1):=h4
      clear h4
      go_wp2_with fail
      go_ret
      exact ⟨by rw [show R = _ from HR,dc_t ⟨HH0,HH1,(by first | rfl | trivial),HH3,HH4⟩];rfl,(show ∀ W,Below W2.heap.size W2 W→Below w.heap.size w W from HBL) _ B4⟩
     ·have ek4:=bne h4
      have HN9:Hid (¬ (kdk F K 1=1)):=h4
      clear h4
      go_wp2_with fail
      go_ret
      exact ⟨by rw [show R = _ from HR,dc_f (fun g=>HN9 g.2.2.2.2)];rfl,(show ∀ W,Below W2.heap.size W2 W→Below w.heap.size w W from HBL) _ B4⟩
    ·rw [dc_f h3]
     have HN9:Hid (¬ (ex F K 0 1)):=h3
     clear h3
     go_wp2_with fail
     go_ret
     exact ⟨by rw [show R = _ from HR,dc_f (fun g=>HN9 g.2.2.2.1)];rfl,(show ∀ W,Below W2.heap.size W2 W→Below w.heap.size w W from HBL) _ B3⟩
   ·have e0:((q:Int) == 2)=false:=bne (by omega)
    have h2:=hq0
    go_wp2_with fail
    go_ret
    exact ⟨by rw [show R = _ from HR,dc_f (fun g=>h2 g.2.2.1)];rfl,(show ∀ W,Below W2.heap.size W2 W→Below w.heap.size w W from HBL) _ B2⟩
  ·rw [dc_f h1]
   have HN9:Hid (¬ (nd nm p A 1 200)):=h1
   clear h1
   go_wp2_with fail
   go_ret
   exact ⟨by rw [show R = _ from HR,dc_f (fun g=>HN9 g.2.1)];rfl,(show ∀ W,Below W2.heap.size W2 W→Below w.heap.size w W from HBL) _ B2⟩
 ·rw [dc_f h0]
  have HN9:Hid (¬ (br ⟨10,f,t,l,o,m,g,x⟩ p false false false true)):=h0
  clear h0
  go_wp2_with fail
  go_ret
  exact ⟨by rw [show R = _ from HR,dc_f (fun g=>HN9 g.1)];rfl,(show ∀ W,Below W2.heap.size W2 W→Below w.heap.size w W from HBL) _ B1⟩
theorem st_11 {nm : ByteArray → Prop} {w : World} {v : Value} {n : Nat} {F : Nat → Gv} {vn vk : Value} {p : Nat} {A : Nat → ByteArray} {q : Nat} {K : Nat → Int} (s : Sx nm w v n F vn vk p A q K) (a : Fv) (hga : a.g < 18446744073709551616) (hk : a.k = 11) :
  Calls Tryz.prog 86 #[.agg #[v],fmv a vn vk] w fun e w'=>e = .returned (.bool (dc (br a p false false false false∧q=0)))∧Below w.heap.size w w':=by
 have hs:=s.sy a hga 56 102
 obtain ⟨W2,hW2⟩:∃ W2,W2=(w.alloc (.cells #[v] 56)).alloc (.cells #[.int .i64 a.k,.int .i64 a.f,.int .i64 a.t,.int .i64 a.l,.int .i64 a.o,.int .i64 a.m,.float .f64 a.g,.string a.x,vn,vk] 102):=⟨_,rfl⟩
 rw [← hW2] at hs
 have HBL:Hid (∀ W,Below W2.heap.size W2 W→Below w.heap.size w W):=(fun W hb=>by rw [hW2] at hb;exact (bel2 w _ _).trans (hb.mono (bel2 w _ _).size):∀ W,_)
 have HSY:Hid (Sy nm W2 w.heap.size v n F a vn vk p A q K):=hs
 have hqI:(q:Int)≤1048576:=by have:=s.hq;omega
 obtain ⟨pn,cn,rfl,_⟩:=s.rn
 obtain ⟨pk,ck,rfl,_⟩:=s.rk
 obtain ⟨pf,cf,rfl,_⟩:=s.rf
 have HSQ:Hid (q≤1048576):=s.hq
 obtain ⟨R,hR⟩:∃ R,R=dc (br a p false false false false∧q=0):=⟨_,rfl⟩
 have HR:Hid (R=dc (br a p false false false false∧q=0)):=hR
 rw [← hR]
 clear hs s hR hga
 obtain ⟨k,f,t,l,o,m,g,x⟩:=a
 dsimp only at hk
 subst hk
 go_enter Tryz.func86,Tryz.ntmps86
 unfold fmv
 dsimp only at hW2
 go_wp2_with fail
 rw [← hW2]
 clear hW2
 have B0:Below W2.heap.size W2 W2:=Below.refl _ _
 obtain ⟨c0,c1,c2,c3,c4,c5,c6,c7,c8,c9⟩:=(show Sy nm W2 w.heap.size _ n F _ _ _ p A q K from HSY).bx
 have ct:=(show Sy nm W2 w.heap.size _ n F _ _ _ p A q K from HSY).ct
 dsimp only at c0 c1 c2 c3 c4 c5 c6 c7
 go_wp2_with fail
 refine ((show Sy nm W2 w.heap.size _ n F _ _ _ p A _ K from HSY).bare false false false false _ B0).mono ?_
 rintro e w1 ⟨rfl,B1⟩
 clear c0 c1 c2 c3 c4 c5 c6 c7 c8 c9 ct
 obtain ⟨c0,c1,c2,c3,c4,c5,c6,c7,c8,c9⟩:=(show Sy nm W2 w.heap.size _ n F _ _ _ p A _ K from HSY).bx.below B1
 have ct:=(B1.cell (p:=⟨w.heap.size,0,none⟩) (lt_of_cell (show Sy nm W2 w.heap.size _ n F _ _ _ p A _ K from HSY).ct)).trans (show Sy nm W2 w.heap.size _ n F _ _ _ p A _ K from HSY).ct
 dsimp only at c0 c1 c2 c3 c4 c5 c6 c7
 by_cases h0:br ⟨11,f,t,l,o,m,g,x⟩ p false false false false
 ·rw [dc_t h0]
  have HH0:Hid (br ⟨11,f,t,l,o,m,g,x⟩ p false false false false):=h0
  clear h0
  skip
  by_cases hq0:q=0
  ·subst hq0
   go_wp2_with fail
   go_ret
   exact ⟨by rw [show R = _ from HR,dc_t ⟨HH0,(by first | rfl | trivial)⟩];rfl,(show ∀ W,Below W2.heap.size W2 W→Below w.heap.size w W from HBL) _ B1⟩
  ·have e0:((q:Int) == 0)=false:=bne (by omega)
   have h1:=hq0
   go_wp2_with fail
   go_ret
   exact ⟨by rw [show R = _ from HR,dc_f (fun g=>h1 g.2)];rfl,(show ∀ W,Below W2.heap.size W2 W→Below w.heap.size w W from HBL) _ B1⟩
 ·rw [dc_f h0]
  have HN9:Hid (¬ (br ⟨11,f,t,l,o,m,g,x⟩ p false false false false)):=h0
  clear h0
  go_wp2_with fail
  go_ret
  exact ⟨by rw [show R = _ from HR,dc_f (fun g=>HN9 g.1)];rfl,(show ∀ W,Below W2.heap.size W2 W→Below w.heap.size w W from HBL) _ B1⟩
theorem st_12 {nm : ByteArray → Prop} {w : World} {v : Value} {n : Nat} {F : Nat → Gv} {vn vk : Value} {p : Nat} {A : Nat → ByteArray} {q : Nat} {K : Nat → Int} (s : Sx nm w v n F vn vk p A q K) (a : Fv) (hga : a.g < 18446744073709551616) (hk : a.k = 12) :
  Calls Tryz.prog 86 #[.agg #[v],fmv a vn vk] w fun e w'=>e = .returned (.bool (dc (br a p false false false false∧q=0)))∧Below w.heap.size w w':=by
 have hs:=s.sy a hga 56 102
 obtain ⟨W2,hW2⟩:∃ W2,W2=(w.alloc (.cells #[v] 56)).alloc (.cells #[.int .i64 a.k,.int .i64 a.f,.int .i64 a.t,.int .i64 a.l,.int .i64 a.o,.int .i64 a.m,.float .f64 a.g,.string a.x,vn,vk] 102):=⟨_,rfl⟩
 rw [← hW2] at hs
 have HBL:Hid (∀ W,Below W2.heap.size W2 W→Below w.heap.size w W):=(fun W hb=>by rw [hW2] at hb;exact (bel2 w _ _).trans (hb.mono (bel2 w _ _).size):∀ W,_)
 have HSY:Hid (Sy nm W2 w.heap.size v n F a vn vk p A q K):=hs
 have hqI:(q:Int)≤1048576:=by have:=s.hq;omega
 obtain ⟨pn,cn,rfl,_⟩:=s.rn
 obtain ⟨pk,ck,rfl,_⟩:=s.rk
 obtain ⟨pf,cf,rfl,_⟩:=s.rf
 have HSQ:Hid (q≤1048576):=s.hq
 obtain ⟨R,hR⟩:∃ R,R=dc (br a p false false false false∧q=0):=⟨_,rfl⟩
 have HR:Hid (R=dc (br a p false false false false∧q=0)):=hR
 rw [← hR]
 clear hs s hR hga
 obtain ⟨k,f,t,l,o,m,g,x⟩:=a
 dsimp only at hk
 subst hk
 go_enter Tryz.func86,Tryz.ntmps86
 unfold fmv
 dsimp only at hW2
 go_wp2_with fail
 rw [← hW2]
 clear hW2
 have B0:Below W2.heap.size W2 W2:=Below.refl _ _
 obtain ⟨c0,c1,c2,c3,c4,c5,c6,c7,c8,c9⟩:=(show Sy nm W2 w.heap.size _ n F _ _ _ p A q K from HSY).bx
 have ct:=(show Sy nm W2 w.heap.size _ n F _ _ _ p A q K from HSY).ct
 dsimp only at c0 c1 c2 c3 c4 c5 c6 c7
 go_wp2_with fail
 refine ((show Sy nm W2 w.heap.size _ n F _ _ _ p A _ K from HSY).bare false false false false _ B0).mono ?_
 rintro e w1 ⟨rfl,B1⟩
 clear c0 c1 c2 c3 c4 c5 c6 c7 c8 c9 ct
 obtain ⟨c0,c1,c2,c3,c4,c5,c6,c7,c8,c9⟩:=(show Sy nm W2 w.heap.size _ n F _ _ _ p A _ K from HSY).bx.below B1
 have ct:=(B1.cell (p:=⟨w.heap.size,0,none⟩) (lt_of_cell (show Sy nm W2 w.heap.size _ n F _ _ _ p A _ K from HSY).ct)).trans (show Sy nm W2 w.heap.size _ n F _ _ _ p A _ K from HSY).ct
 dsimp only at c0 c1 c2 c3 c4 c5 c6 c7
 by_cases h0:br ⟨12,f,t,l,o,m,g,x⟩ p false false false false
 ·rw [dc_t h0]
  have HH0:Hid (br ⟨12,f,t,l,o,m,g,x⟩ p false false false false):=h0
  clear h0
  skip
  by_cases hq0:q=0
  ·subst hq0
   go_wp2_with fail
   go_ret
   exact ⟨by rw [show R = _ from HR,dc_t ⟨HH0,(by first | rfl | trivial)⟩];rfl,(show ∀ W,Below W2.heap.size W2 W→Below w.heap.size w W from HBL) _ B1⟩
  ·have e0:((q:Int) == 0)=false:=bne (by omega)
   have h1:=hq0
   go_wp2_with fail
   go_ret
   exact ⟨by rw [show R = _ from HR,dc_f (fun g=>h1 g.2)];rfl,(show ∀ W,Below W2.heap.size W2 W→Below w.heap.size w W from HBL) _ B1⟩
 ·rw [dc_f h0]
  have HN9:Hid (¬ (br ⟨12,f,t,l,o,m,g,x⟩ p false false false false)):=h0
  clear h0
  go_wp2_with fail
  go_ret
  exact ⟨by rw [show R = _ from HR,dc_f (fun g=>HN9 g.1)];rfl,(show ∀ W,Below W2.heap.size W2 W→Below w.heap.size w W from HBL) _ B1⟩
theorem st_13 {nm : ByteArray → Prop} {w : World} {v : Value} {n : Nat} {F : Nat → Gv} {vn vk : Value} {p : Nat} {A : Nat → ByteArray} {q : Nat} {K : Nat → Int} (s : Sx nm w v n F vn vk p A q K) (a : Fv) (hga : a.g < 18446744073709551616) (hk : a.k = 13) :
  Calls Tryz.prog 86 #[.agg #[v],fmv a vn vk] w fun e w'=>e = .returned (.bool (dc (br a p false false false false∧ex F K 0 q)))∧Below w.heap.size w w':=by
 have hs:=s.sy a hga 56 102
 obtain ⟨W2,hW2⟩:∃ W2,W2=(w.alloc (.cells #[v] 56)).alloc (.cells #[.int .i64 a.k,.int .i64 a.f,.int .i64 a.t,.int .i64 a.l,.int .i64 a.o,.int .i64 a.m,.float .f64 a.g,.string a.x,vn,vk] 102):=⟨_,rfl⟩
 rw [← hW2] at hs
 have HBL:Hid (∀ W,Below W2.heap.size W2 W→Below w.heap.size w W):=(fun W hb=>by rw [hW2] at hb;exact (bel2 w _ _).trans (hb.mono (bel2 w _ _).size):∀ W,_)
 have HSY:Hid (Sy nm W2 w.heap.size v n F a vn vk p A q K):=hs
 have hqI:(q:Int)≤1048576:=by have:=s.hq;omega
 obtain ⟨pn,cn,rfl,_⟩:=s.rn
 obtain ⟨pk,ck,rfl,_⟩:=s.rk
 obtain ⟨pf,cf,rfl,_⟩:=s.rf
 have HSQ:Hid (q≤1048576):=s.hq
 obtain ⟨R,hR⟩:∃ R,R=dc (br a p false false false false∧ex F K 0 q):=⟨_,rfl⟩
 have HR:Hid (R=dc (br a p false false false false∧ex F K 0 q)):=hR
 rw [← hR]
 clear hs s hR hga
 obtain ⟨k,f,t,l,o,m,g,x⟩:=a
 dsimp only at hk
 subst hk
 go_enter Tryz.func86,Tryz.ntmps86
 unfold fmv
 dsimp only at hW2
 go_wp2_with fail
 rw [← hW2]
 clear hW2
 have B0:Below W2.heap.size W2 W2:=Below.refl _ _
 obtain ⟨c0,c1,c2,c3,c4,c5,c6,c7,c8,c9⟩:=(show Sy nm W2 w.heap.size _ n F _ _ _ p A q K from HSY).bx
 have ct:=(show Sy nm W2 w.heap.size _ n F _ _ _ p A q K from HSY).ct
 dsimp only at c0 c1 c2 c3 c4 c5 c6 c7
 go_wp2_with fail
 refine ((show Sy nm W2 w.heap.size _ n F _ _ _ p A _ K from HSY).bare false false false false _ B0).mono ?_
 rintro e w1 ⟨rfl,B1⟩
 clear c0 c1 c2 c3 c4 c5 c6 c7 c8 c9 ct
 obtain ⟨c0,c1,c2,c3,c4,c5,c6,c7,c8,c9⟩:=(show Sy nm W2 w.heap.size _ n F _ _ _ p A _ K from HSY).bx.below B1
 have ct:=(B1.cell (p:=⟨w.heap.size,0,none⟩) (lt_of_cell (show Sy nm W2 w.heap.size _ n F _ _ _ p A _ K from HSY).ct)).trans (show Sy nm W2 w.heap.size _ n F _ _ _ p A _ K from HSY).ct
 dsimp only at c0 c1 c2 c3 c4 c5 c6 c7
 by_cases h0:br ⟨13,f,t,l,o,m,g,x⟩ p false false false false
 ·rw [dc_t h0]
  have HH0:Hid (br ⟨13,f,t,l,o,m,g,x⟩ p false false false false):=h0
  clear h0
  go_wp2_with fail
  refine ((show Sy nm W2 w.heap.size _ n F _ _ _ p A _ K from HSY).exprs _ _ 0 q rfl (by first | rfl | omega) (by omega) (by omega) _ B1).mono ?_
  rintro e w2 ⟨rfl,B2⟩
  clear c0 c1 c2 c3 c4 c5 c6 c7 c8 c9 ct
  obtain ⟨c0,c1,c2,c3,c4,c5,c6,c7,c8,c9⟩:=(show Sy nm W2 w.heap.size _ n F _ _ _ p A _ K from HSY).bx.below B2
  have ct:=(B2.cell (p:=⟨w.heap.size,0,none⟩) (lt_of_cell (show Sy nm W2 w.heap.size _ n F _ _ _ p A _ K from HSY).ct)).trans (show Sy nm W2 w.heap.size _ n F _ _ _ p A _ K from HSY).ct
  dsimp only at c0 c1 c2 c3 c4 c5 c6 c7
  by_cases h1:ex F K 0 q
  ·rw [dc_t h1]
   have HH1:Hid (ex F K 0 q):=h1
   clear h1
   go_wp2_with fail
   go_ret
   exact ⟨by rw [show R = _ from HR,dc_t ⟨HH0,HH1⟩];rfl,(show ∀ W,Below W2.heap.size W2 W→Below w.heap.size w W from HBL) _ B2⟩
  ·rw [dc_f h1]
   have HN9:Hid (¬ (ex F K 0 q)):=h1
   clear h1
   go_wp2_with fail
   go_ret
   exact ⟨by rw [show R = _ from HR,dc_f (fun g=>HN9 g.2)];rfl,(show ∀ W,Below W2.heap.size W2 W→Below w.heap.size w W from HBL) _ B2⟩
 ·rw [dc_f h0]
  have HN9:Hid (¬ (br ⟨13,f,t,l,o,m,g,x⟩ p false false false false)):=h0
  clear h0
  go_wp2_with fail
  go_ret
  exact ⟨by rw [show R = _ from HR,dc_f (fun g=>HN9 g.1)];rfl,(show ∀ W,Below W2.heap.size W2 W→Below w.heap.size w W from HBL) _ B1⟩
theorem st_14 {nm : ByteArray → Prop} {w : World} {v : Value} {n : Nat} {F : Nat → Gv} {vn vk : Value} {p : Nat} {A : Nat → ByteArray} {q : Nat} {K : Nat → Int} (s : Sx nm w v n F vn vk p A q K) (a : Fv) (hga : a.g < 18446744073709551616) (hk : a.k = 14) :
  Calls Tryz.prog 86 #[.agg #[v],fmv a vn vk] w fun e w'=>e = .returned (.bool (dc (br a p false false false true∧nd nm p A 1 2∧q=2∧kdk F K 0=1∧kdk F K 1=1)))∧Below w.heap.size w w':=by
 have hs:=s.sy a hga 56 102
 obtain ⟨W2,hW2⟩:∃ W2,W2=(w.alloc (.cells #[v] 56)).alloc (.cells #[.int .i64 a.k,.int .i64 a.f,.int .i64 a.t,.int .i64 a.l,.int .i64 a.o,.int .i64 a.m,.float .f64 a.g,.string a.x,vn,vk] 102):=⟨_,rfl⟩
 rw [← hW2] at hs
 have HBL:Hid (∀ W,Below W2.heap.size W2 W→Below w.heap.size w W):=(fun W hb=>by rw [hW2] at hb;exact (bel2 w _ _).trans (hb.mono (bel2 w _ _).size):∀ W,_)
 have HSY:Hid (Sy nm W2 w.heap.size v n F a vn vk p A q K):=hs
 have hqI:(q:Int)≤1048576:=by have:=s.hq;omega
 obtain ⟨pn,cn,rfl,_⟩:=s.rn
 obtain ⟨pk,ck,rfl,_⟩:=s.rk
 obtain ⟨pf,cf,rfl,_⟩:=s.rf
 have HSQ:Hid (q≤1048576):=s.hq
 obtain ⟨R,hR⟩:∃ R,R=dc (br a p false false false true∧nd nm p A 1 2∧q=2∧kdk F K 0=1∧kdk F K 1=1):=⟨_,rfl⟩
 have HR:Hid (R=dc (br a p false false false true∧nd nm p A 1 2∧q=2∧kdk F K 0=1∧kdk F K 1=1)):=hR
 rw [← hR]
 clear hs s hR hga
 obtain ⟨k,f,t,l,o,m,g,x⟩:=a
 dsimp only at hk
 subst hk
 go_enter Tryz.func86,Tryz.ntmps86
 unfold fmv
 dsimp only at hW2
 go_wp2_with fail
 rw [← hW2]
 clear hW2
 have B0:Below W2.heap.size W2 W2:=Below.refl _ _
 obtain ⟨c0,c1,c2,c3,c4,c5,c6,c7,c8,c9⟩:=(show Sy nm W2 w.heap.size _ n F _ _ _ p A q K from HSY).bx
 have ct:=(show Sy nm W2 w.heap.size _ n F _ _ _ p A q K from HSY).ct
 dsimp only at c0 c1 c2 c3 c4 c5 c6 c7
 go_wp2_with fail
 refine ((show Sy nm W2 w.heap.size _ n F _ _ _ p A _ K from HSY).bare false false false true _ B0).mono ?_
 rintro e w1 ⟨rfl,B1⟩
 clear c0 c1 c2 c3 c4 c5 c6 c7 c8 c9 ct
 obtain ⟨c0,c1,c2,c3,c4,c5,c6,c7,c8,c9⟩:=(show Sy nm W2 w.heap.size _ n F _ _ _ p A _ K from HSY).bx.below B1
 have ct:=(B1.cell (p:=⟨w.heap.size,0,none⟩) (lt_of_cell (show Sy nm W2 w.heap.size _ n F _ _ _ p A _ K from HSY).ct)).trans (show Sy nm W2 w.heap.size _ n F _ _ _ p A _ K from HSY).ct
 dsimp only at c0 c1 c2 c3 c4 c5 c6 c7
 by_cases h0:br ⟨14,f,t,l,o,m,g,x⟩ p false false false true
 ·rw [dc_t h0]
  have HH0:Hid (br ⟨14,f,t,l,o,m,g,x⟩ p false false false true):=h0
  clear h0
  go_wp2_with fail
  refine ((show Sy nm W2 w.heap.size _ n F _ _ _ p A _ K from HSY).named 1 2 (by omega) (by omega) _ B1).mono ?_
  rintro e w2 ⟨rfl,B2⟩
  clear c0 c1 c2 c3 c4 c5 c6 c7 c8 c9 ct
  obtain ⟨c0,c1,c2,c3,c4,c5,c6,c7,c8,c9⟩:=(show Sy nm W2 w.heap.size _ n F _ _ _ p A _ K from HSY).bx.below B2
  have ct:=(B2.cell (p:=⟨w.heap.size,0,none⟩) (lt_of_cell (show Sy nm W2 w.heap.size _ n F _ _ _ p A _ K from HSY).ct)).trans (show Sy nm W2 w.heap.size _ n F _ _ _ p A _ K from HSY).ct
  dsimp only at c0 c1 c2 c3 c4 c5 c6 c7
  by_cases h1:nd nm p A 1 2
  ·rw [dc_t h1]
   have HH1:Hid (nd nm p A 1 2):=h1
   clear h1
   skip
   by_cases hq0:q=2
   ·subst hq0
    go_wp2_with fail
    refine ((show Sy nm W2 w.heap.size _ n F _ _ _ p A _ K from HSY).kid _ 0 (by first | rfl | omega) (by omega) _ B2).mono ?_
    rintro e w3 ⟨rfl,B3⟩
    clear c0 c1 c2 c3 c4 c5 c6 c7 c8 c9 ct
    obtain ⟨c0,c1,c2,c3,c4,c5,c6,c7,c8,c9⟩:=(show Sy nm W2 w.heap.size _ n F _ _ _ p A _ K from HSY).bx.below B3
    have ct:=(B3.cell (p:=⟨w.heap.size,0,none⟩) (lt_of_cell (show Sy nm W2 w.heap.size _ n F _ _ _ p A _ K from HSY).ct)).trans (show Sy nm W2 w.heap.size _ n F _ _ _ p A _ K from HSY).ct
    dsimp only at c0 c1 c2 c3 c4 c5 c6 c7
    by_cases h3:kdk F K 0=1
    ·have ek3:=beq1 h3
     have HH3:Hid (kdk F K 0=1):=h3
     clear h3
     go_wp2_with fail
     refine ((show Sy nm W2 w.heap.size _ n F _ _ _ p A _ K from HSY).kid _ 1 (by first | rfl | omega) (by omega) _ B3).mono ?_
     rintro e w4 ⟨rfl,B4⟩
     clear c0 c1 c2 c3 c4 c5 c6 c7 c8 c9 ct
     obtain ⟨c0,c1,c2,c3,c4,c5,c6,c7,c8,c9⟩:=(show Sy nm W2 w.heap.size _ n F _ _ _ p A _ K from HSY).bx.below B4
     have ct:=(B4.cell (p:=⟨w.heap.size,0,none⟩) (lt_of_cell (show Sy nm W2 w.heap.size _ n F _ _ _ p A _ K from HSY).ct)).trans (show Sy nm W2 w.heap.size _ n F _ _ _ p A _ K from HSY).ct
     dsimp only at c0 c1 c2 c3 c4 c5 c6 c7
     by_cases h4:kdk F K 1=1
     ·have ek4:=beq1 h4
      have HH4:Hid (kdk F K 1=1):=h4
      clear h4
      go_wp2_with fail
      go_ret
      exact ⟨by rw [show R = _ from HR,dc_t ⟨HH0,HH1,(by first | rfl | trivial),HH3,HH4⟩];rfl,(show ∀ W,Below W2.heap.size W2 W→Below w.heap.size w W from HBL) _ B4⟩
     ·have ek4:=bne h4
      have HN9:Hid (¬ (kdk F K 1=1)):=h4
      clear h4
      go_wp2_with fail
      go_ret
      exact ⟨by rw [show R = _ from HR,dc_f (fun g=>HN9 g.2.2.2.2)];rfl,(show ∀ W,Below W2.heap.size W2 W→Below w.heap.size w W from HBL) _ B4⟩
    ·have ek3:=bne h3
     have HN9:Hid (¬ (kdk F K 0=1)):=h3
     clear h3
     go_wp2_with fail
     go_ret
     exact ⟨by rw [show R = _ from HR,dc_f (fun g=>HN9 g.2.2.2.1)];rfl,(show ∀ W,Below W2.heap.size W2 W→Below w.heap.size w W from HBL) _ B3⟩
   ·have e0:((q:Int) == 2)=false:=bne (by omega)
    have h2:=hq0
    go_wp2_with fail
    go_ret
    exact ⟨by rw [show R = _ from HR,dc_f (fun g=>h2 g.2.2.1)];rfl,(show ∀ W,Below W2.heap.size W2 W→Below w.heap.size w W from HBL) _ B2⟩
  ·rw [dc_f h1]
   have HN9:Hid (¬ (nd nm p A 1 2)):=h1
   clear h1
   go_wp2_with fail
   go_ret
   exact ⟨by rw [show R = _ from HR,dc_f (fun g=>HN9 g.2.1)];rfl,(show ∀ W,Below W2.heap.size W2 W→Below w.heap.size w W from HBL) _ B2⟩
 ·rw [dc_f h0]
  have HN9:Hid (¬ (br ⟨14,f,t,l,o,m,g,x⟩ p false false false true)):=h0
  clear h0
  go_wp2_with fail
  go_ret
  exact ⟨by rw [show R = _ from HR,dc_f (fun g=>HN9 g.1)];rfl,(show ∀ W,Below W2.heap.size W2 W→Below w.heap.size w W from HBL) _ B1⟩
theorem st_15 {nm : ByteArray → Prop} {w : World} {v : Value} {n : Nat} {F : Nat → Gv} {vn vk : Value} {p : Nat} {A : Nat → ByteArray} {q : Nat} {K : Nat → Int} (s : Sx nm w v n F vn vk p A q K) (a : Fv) (hga : a.g < 18446744073709551616) (hk : a.k = 15) :
  Calls Tryz.prog 86 #[.agg #[v],fmv a vn vk] w fun e w'=>e = .returned (.bool (dc (br a p false false false false∧q=1∧ex F K 0 1)))∧Below w.heap.size w w':=by
 have hs:=s.sy a hga 56 102
 obtain ⟨W2,hW2⟩:∃ W2,W2=(w.alloc (.cells #[v] 56)).alloc (.cells #[.int .i64 a.k,.int .i64 a.f,.int .i64 a.t,.int .i64 a.l,.int .i64 a.o,.int .i64 a.m,.float .f64 a.g,.string a.x,vn,vk] 102):=⟨_,rfl⟩
 rw [← hW2] at hs
 have HBL:Hid (∀ W,Below W2.heap.size W2 W→Below w.heap.size w W):=(fun W hb=>by rw [hW2] at hb;exact (bel2 w _ _).trans (hb.mono (bel2 w _ _).size):∀ W,_)
 have HSY:Hid (Sy nm W2 w.heap.size v n F a vn vk p A q K):=hs
 have hqI:(q:Int)≤1048576:=by have:=s.hq;omega
 obtain ⟨pn,cn,rfl,_⟩:=s.rn
 obtain ⟨pk,ck,rfl,_⟩:=s.rk
 obtain ⟨pf,cf,rfl,_⟩:=s.rf
 have HSQ:Hid (q≤1048576):=s.hq
 obtain ⟨R,hR⟩:∃ R,R=dc (br a p false false false false∧q=1∧ex F K 0 1):=⟨_,rfl⟩
 have HR:Hid (R=dc (br a p false false false false∧q=1∧ex F K 0 1)):=hR
 rw [← hR]
 clear hs s hR hga
 obtain ⟨k,f,t,l,o,m,g,x⟩:=a
 dsimp only at hk
 subst hk
 go_enter Tryz.func86,Tryz.ntmps86
 unfold fmv
 dsimp only at hW2
 go_wp2_with fail
 rw [← hW2]
 clear hW2
 have B0:Below W2.heap.size W2 W2:=Below.refl _ _
 obtain ⟨c0,c1,c2,c3,c4,c5,c6,c7,c8,c9⟩:=(show Sy nm W2 w.heap.size _ n F _ _ _ p A q K from HSY).bx
 have ct:=(show Sy nm W2 w.heap.size _ n F _ _ _ p A q K from HSY).ct
 dsimp only at c0 c1 c2 c3 c4 c5 c6 c7
 go_wp2_with fail
 refine ((show Sy nm W2 w.heap.size _ n F _ _ _ p A _ K from HSY).bare false false false false _ B0).mono ?_
 rintro e w1 ⟨rfl,B1⟩
 clear c0 c1 c2 c3 c4 c5 c6 c7 c8 c9 ct
 obtain ⟨c0,c1,c2,c3,c4,c5,c6,c7,c8,c9⟩:=(show Sy nm W2 w.heap.size _ n F _ _ _ p A _ K from HSY).bx.below B1
 have ct:=(B1.cell (p:=⟨w.heap.size,0,none⟩) (lt_of_cell (show Sy nm W2 w.heap.size _ n F _ _ _ p A _ K from HSY).ct)).trans (show Sy nm W2 w.heap.size _ n F _ _ _ p A _ K from HSY).ct
 dsimp only at c0 c1 c2 c3 c4 c5 c6 c7
 by_cases h0:br ⟨15,f,t,l,o,m,g,x⟩ p false false false false
 ·rw [dc_t h0]
  have HH0:Hid (br ⟨15,f,t,l,o,m,g,x⟩ p false false false false):=h0
  clear h0
  skip
  by_cases hq0:q=1
  ·subst hq0
   go_wp2_with fail
   refine ((show Sy nm W2 w.heap.size _ n F _ _ _ p A _ K from HSY).exprs _ _ 0 1 rfl (by first | rfl | omega) (by omega) (by omega) _ B1).mono ?_
   rintro e w2 ⟨rfl,B2⟩
   clear c0 c1 c2 c3 c4 c5 c6 c7 c8 c9 ct
   obtain ⟨c0,c1,c2,c3,c4,c5,c6,c7,c8,c9⟩:=(show Sy nm W2 w.heap.size _ n F _ _ _ p A _ K from HSY).bx.below B2
   have ct:=(B2.cell (p:=⟨w.heap.size,0,none⟩) (lt_of_cell (show Sy nm W2 w.heap.size _ n F _ _ _ p A _ K from HSY).ct)).trans (show Sy nm W2 w.heap.size _ n F _ _ _ p A _ K from HSY).ct
   dsimp only at c0 c1 c2 c3 c4 c5 c6 c7
   by_cases h2:ex F K 0 1
   ·rw [dc_t h2]
    have HH2:Hid (ex F K 0 1):=h2
    clear h2
    go_wp2_with fail
    go_ret
    exact ⟨by rw [show R = _ from HR,dc_t ⟨HH0,(by first | rfl | trivial),HH2⟩];rfl,(show ∀ W,Below W2.heap.size W2 W→Below w.heap.size w W from HBL) _ B2⟩
   ·rw [dc_f h2]
    have HN9:Hid (¬ (ex F K 0 1)):=h2
    clear h2
    go_wp2_with fail
    go_ret
    exact ⟨by rw [show R = _ from HR,dc_f (fun g=>HN9 g.2.2)];rfl,(show ∀ W,Below W2.heap.size W2 W→Below w.heap.size w W from HBL) _ B2⟩
  ·have e0:((q:Int) == 1)=false:=bne (by omega)
   have h1:=hq0
   go_wp2_with fail
   go_ret
   exact ⟨by rw [show R = _ from HR,dc_f (fun g=>h1 g.2.1)];rfl,(show ∀ W,Below W2.heap.size W2 W→Below w.heap.size w W from HBL) _ B1⟩
 ·rw [dc_f h0]
  have HN9:Hid (¬ (br ⟨15,f,t,l,o,m,g,x⟩ p false false false false)):=h0
  clear h0
  go_wp2_with fail
  go_ret
  exact ⟨by rw [show R = _ from HR,dc_f (fun g=>HN9 g.1)];rfl,(show ∀ W,Below W2.heap.size W2 W→Below w.heap.size w W from HBL) _ B1⟩
end Go.Proofs.YtomcmnompajnlaaGreatDoor.Fo.Po
