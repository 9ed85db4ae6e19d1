import Derived.Test.YtomcmnompajnlaaGreatDoorCSkxb
import Derived.Test.YtomcmnompajnlaaGreatDoorBBab
import Derived.Test.YtomcmnompajnlaaGreatDoorCSkf
import Derived.Test.YtomcmnompajnlaaGreatDoorCSkg
import Derived.Test.YtomcmnompajnlaaGreatDoorBSkm
set_option maxRecDepth 100000
set_option maxHeartbeats 8000000
namespace Go.Proofs.YtomcmnompajnlaaGreatDoor.Fo
open Go.ChangeShapes Go.WideShapes Go.ChangeAt Go.RowKit
set_option linter.unusedVariables false
theorem xp_21 {nm : ByteArray → Prop} {w : World} {v : Value} {n : Nat} {F : Nat → Gv} {vn vk : Value} {p : Nat} {A : Nat → ByteArray} {q : Nat} {K : Nat → Int} (s : Sx nm w v n F vn vk p A q K) (a : Fv) (hk : a.k = 21) :
    Calls Tryz.prog 68 #[.agg #[v],fmv a vn vk] w fun e w'=>e = .returned (.bool (dc (q=0∧br a p false false false false)))∧Below w.heap.size w w':=by
  have hs:=s.sy a 31 64
  obtain ⟨W2,hW2⟩:∃ W2,W2=(w.alloc (.cells #[v] 31)).alloc (.cells #[.int .i64 a.k,.int .i64 a.f,.int .i64 a.t,.int .i64 a.l,.int .i64 a.o,.int .i64 a.m,.string a.x,vn,vk] 64):=⟨_,rfl⟩
  rw [← hW2] at hs
  have HBL:Hid (∀ W,Below W2.heap.size W2 W→Below w.heap.size w W):=(fun W hb=>by rw [hW2] at hb;exact (bel2 w _ _).trans (hb.mono (bel2 w _ _).size):∀ W,_)
  have HSY:Hid (Sy nm W2 w.heap.size v n F a vn vk p A q K):=hs
  have hqI:(q:Int)≤1048576:=by have:=s.hq;omega
  obtain ⟨pn,cn,rfl,_⟩:=s.rn
  obtain ⟨pk,ck,rfl,_⟩:=s.rk
  obtain ⟨pf,cf,rfl,_⟩:=s.rf
  have HSQ:Hid (q≤1048576):=s.hq
  obtain ⟨R,hR⟩:∃ R,R=dc (q=0∧br a p false false false false):=⟨_,rfl⟩
  have HR:Hid (R=dc (q=0∧br a p false false false false)):=hR
  rw [← hR]
  clear hs s hR
  obtain ⟨k,f,t,l,o,m,x⟩:=a
  dsimp only at hk
  subst hk
  by_cases hq0:q=0
  · subst hq0
    go_enter Tryz.func68,Tryz.ntmps68
    unfold fmv
    dsimp only at hW2
    go_wp2_with fail
    rw [← hW2]
    clear hW2
    have B0:Below W2.heap.size W2 W2:=Below.refl _ _
    obtain ⟨c0,c1,c2,c3,c4,c5,c6,c7,c8⟩:=(show Sy nm W2 w.heap.size _ n F _ _ _ p A _ K from HSY).bx
    have ct:=(show Sy nm W2 w.heap.size _ n F _ _ _ p A _ K from HSY).ct
    dsimp only at c0 c1 c2 c3 c4 c5 c6
    go_wp2_with fail
    refine ((show Sy nm W2 w.heap.size _ n F _ _ _ p A _ K from HSY).bare false false false false _ B0).mono ?_
    rintro e w1 ⟨rfl,B1⟩
    clear c0 c1 c2 c3 c4 c5 c6 c7 c8 ct
    obtain ⟨c0,c1,c2,c3,c4,c5,c6,c7,c8⟩:=(show Sy nm W2 w.heap.size _ n F _ _ _ p A _ K from HSY).bx.below B1
    have ct:=(B1.cell (p:=⟨w.heap.size,0,none⟩) (lt_of_cell (show Sy nm W2 w.heap.size _ n F _ _ _ p A _ K from HSY).ct)).trans (show Sy nm W2 w.heap.size _ n F _ _ _ p A _ K from HSY).ct
    dsimp only at c0 c1 c2 c3 c4 c5 c6
    by_cases h1:br ⟨21,f,t,l,o,m,x⟩ p false false false false
    · rw [dc_t h1]
      have HH1:Hid (br ⟨21,f,t,l,o,m,x⟩ p false false false false):=h1
      clear h1
      go_wp2_with fail
      go_ret
      exact ⟨by rw [show R = _ from HR,dc_t ⟨(by first | rfl | trivial),HH1⟩];first | rfl | (simp [*];done),(show ∀ W,Below W2.heap.size W2 W→Below w.heap.size w W from HBL) _ B1⟩
    · rw [dc_f h1]
      have HN9:Hid (Nt (br ⟨21,f,t,l,o,m,x⟩ p false false false false)):=h1
      clear h1
      go_wp2_with fail
      go_ret
      exact ⟨by rw [show R = _ from HR,dc_f (fun g=>HN9 g.2)];first | rfl | (simp [*];done),(show ∀ W,Below W2.heap.size W2 W→Below w.heap.size w W from HBL) _ B1⟩
  · have e0:((q:Int) == 0)=false:=bne (by omega)
    have HN9:Hid (Nt (q=0)):=hq0
    clear hq0
    go_enter Tryz.func68,Tryz.ntmps68
    unfold fmv
    dsimp only at hW2
    go_wp2_with fail
    go_ret
    exact ⟨by rw [show R = _ from HR,dc_f (fun g=>HN9 g.1)];rfl,bel2 _ _ _⟩
theorem xp_22 {nm : ByteArray → Prop} {w : World} {v : Value} {n : Nat} {F : Nat → Gv} {vn vk : Value} {p : Nat} {A : Nat → ByteArray} {q : Nat} {K : Nat → Int} (s : Sx nm w v n F vn vk p A q K) (a : Fv) (hk : a.k = 22) :
    Calls Tryz.prog 68 #[.agg #[v],fmv a vn vk] w fun e w'=>e = .returned (.bool (dc (q=0∧br a p false false false false)))∧Below w.heap.size w w':=by
  have hs:=s.sy a 31 64
  obtain ⟨W2,hW2⟩:∃ W2,W2=(w.alloc (.cells #[v] 31)).alloc (.cells #[.int .i64 a.k,.int .i64 a.f,.int .i64 a.t,.int .i64 a.l,.int .i64 a.o,.int .i64 a.m,.string a.x,vn,vk] 64):=⟨_,rfl⟩
  rw [← hW2] at hs
  have HBL:Hid (∀ W,Below W2.heap.size W2 W→Below w.heap.size w W):=(fun W hb=>by rw [hW2] at hb;exact (bel2 w _ _).trans (hb.mono (bel2 w _ _).size):∀ W,_)
  have HSY:Hid (Sy nm W2 w.heap.size v n F a vn vk p A q K):=hs
  have hqI:(q:Int)≤1048576:=by have:=s.hq;omega
  obtain ⟨pn,cn,rfl,_⟩:=s.rn
  obtain ⟨pk,ck,rfl,_⟩:=s.rk
  obtain ⟨pf,cf,rfl,_⟩:=s.rf
  have HSQ:Hid (q≤1048576):=s.hq
  obtain ⟨R,hR⟩:∃ R,R=dc (q=0∧br a p false false false false):=⟨_,rfl⟩
  have HR:Hid (R=dc (q=0∧br a p false false false false)):=hR
  rw [← hR]
  clear hs s hR
  obtain ⟨k,f,t,l,o,m,x⟩:=a
  dsimp only at hk
  subst hk
  by_cases hq0:q=0
  · subst hq0
    go_enter Tryz.func68,Tryz.ntmps68
    unfold fmv
    dsimp only at hW2
    go_wp2_with fail
    rw [← hW2]
    clear hW2
    have B0:Below W2.heap.size W2 W2:=Below.refl _ _
    obtain ⟨c0,c1,c2,c3,c4,c5,c6,c7,c8⟩:=(show Sy nm W2 w.heap.size _ n F _ _ _ p A _ K from HSY).bx
    have ct:=(show Sy nm W2 w.heap.size _ n F _ _ _ p A _ K from HSY).ct
    dsimp only at c0 c1 c2 c3 c4 c5 c6
    go_wp2_with fail
    refine ((show Sy nm W2 w.heap.size _ n F _ _ _ p A _ K from HSY).bare false false false false _ B0).mono ?_
    rintro e w1 ⟨rfl,B1⟩
    clear c0 c1 c2 c3 c4 c5 c6 c7 c8 ct
    obtain ⟨c0,c1,c2,c3,c4,c5,c6,c7,c8⟩:=(show Sy nm W2 w.heap.size _ n F _ _ _ p A _ K from HSY).bx.below B1
    have ct:=(B1.cell (p:=⟨w.heap.size,0,none⟩) (lt_of_cell (show Sy nm W2 w.heap.size _ n F _ _ _ p A _ K from HSY).ct)).trans (show Sy nm W2 w.heap.size _ n F _ _ _ p A _ K from HSY).ct
    dsimp only at c0 c1 c2 c3 c4 c5 c6
    by_cases h1:br ⟨22,f,t,l,o,m,x⟩ p false false false false
    · rw [dc_t h1]
      have HH1:Hid (br ⟨22,f,t,l,o,m,x⟩ p false false false false):=h1
      clear h1
      go_wp2_with fail
      go_ret
      exact ⟨by rw [show R = _ from HR,dc_t ⟨(by first | rfl | trivial),HH1⟩];first | rfl | (simp [*];done),(show ∀ W,Below W2.heap.size W2 W→Below w.heap.size w W from HBL) _ B1⟩
    · rw [dc_f h1]
      have HN9:Hid (Nt (br ⟨22,f,t,l,o,m,x⟩ p false false false false)):=h1
      clear h1
      go_wp2_with fail
      go_ret
      exact ⟨by rw [show R = _ from HR,dc_f (fun g=>HN9 g.2)];first | rfl | (simp [*];done),(show ∀ W,Below W2.heap.size W2 W→Below w.heap.size w W from HBL) _ B1⟩
  · have e0:((q:Int) == 0)=false:=bne (by omega)
    have HN9:Hid (Nt (q=0)):=hq0
    clear hq0
    go_enter Tryz.func68,Tryz.ntmps68
    unfold fmv
    dsimp only at hW2
    go_wp2_with fail
    go_ret
    exact ⟨by rw [show R = _ from HR,dc_f (fun g=>HN9 g.1)];rfl,bel2 _ _ _⟩
theorem xp_27 {nm : ByteArray → Prop} {w : World} {v : Value} {n : Nat} {F : Nat → Gv} {vn vk : Value} {p : Nat} {A : Nat → ByteArray} {q : Nat} {K : Nat → Int} (s : Sx nm w v n F vn vk p A q K) (a : Fv) (hk : a.k = 27) :
    Calls Tryz.prog 68 #[.agg #[v],fmv a vn vk] w fun e w'=>e = .returned (.bool (dc (q=0∧br a p false false false false)))∧Below w.heap.size w w':=by
  have hs:=s.sy a 31 64
  obtain ⟨W2,hW2⟩:∃ W2,W2=(w.alloc (.cells #[v] 31)).alloc (.cells #[.int .i64 a.k,.int .i64 a.f,.int .i64 a.t,.int .i64 a.l,.int .i64 a.o,.int .i64 a.m,.string a.x,vn,vk] 64):=⟨_,rfl⟩
  rw [← hW2] at hs
  have HBL:Hid (∀ W,Below W2.heap.size W2 W→Below w.heap.size w W):=(fun W hb=>by rw [hW2] at hb;exact (bel2 w _ _).trans (hb.mono (bel2 w _ _).size):∀ W,_)
  have HSY:Hid (Sy nm W2 w.heap.size v n F a vn vk p A q K):=hs
  have hqI:(q:Int)≤1048576:=by have:=s.hq;omega
  obtain ⟨pn,cn,rfl,_⟩:=s.rn
  obtain ⟨pk,ck,rfl,_⟩:=s.rk
  obtain ⟨pf,cf,rfl,_⟩:=s.rf
  have HSQ:Hid (q≤1048576):=s.hq
  obtain ⟨R,hR⟩:∃ R,R=dc (q=0∧br a p false false false false):=⟨_,rfl⟩
  have HR:Hid (R=dc (q=0∧br a p false false false false)):=hR
  rw [← hR]
  clear hs s hR
  obtain ⟨k,f,t,l,o,m,x⟩:=a
  dsimp only at hk
  subst hk
  by_cases hq0:q=0
  · subst hq0
    go_enter Tryz.func68,Tryz.ntmps68
    unfold fmv
    dsimp only at hW2
    go_wp2_with fail
    rw [← hW2]
    clear hW2
    have B0:Below W2.heap.size W2 W2:=Below.refl _ _
    obtain ⟨c0,c1,c2,c3,c4,c5,c6,c7,c8⟩:=(show Sy nm W2 w.heap.size _ n F _ _ _ p A _ K from HSY).bx
    have ct:=(show Sy nm W2 w.heap.size _ n F _ _ _ p A _ K from HSY).ct
    dsimp only at c0 c1 c2 c3 c4 c5 c6
    go_wp2_with fail
    refine ((show Sy nm W2 w.heap.size _ n F _ _ _ p A _ K from HSY).bare false false false false _ B0).mono ?_
    rintro e w1 ⟨rfl,B1⟩
    clear c0 c1 c2 c3 c4 c5 c6 c7 c8 ct
    obtain ⟨c0,c1,c2,c3,c4,c5,c6,c7,c8⟩:=(show Sy nm W2 w.heap.size _ n F _ _ _ p A _ K from HSY).bx.below B1
    have ct:=(B1.cell (p:=⟨w.heap.size,0,none⟩) (lt_of_cell (show Sy nm W2 w.heap.size _ n F _ _ _ p A _ K from HSY).ct)).trans (show Sy nm W2 w.heap.size _ n F _ _ _ p A _ K from HSY).ct
    dsimp only at c0 c1 c2 c3 c4 c5 c6
    by_cases h1:br ⟨27,f,t,l,o,m,x⟩ p false false false false
    · rw [dc_t h1]
      have HH1:Hid (br ⟨27,f,t,l,o,m,x⟩ p false false false false):=h1
      clear h1
      go_wp2_with fail
      go_ret
      exact ⟨by rw [show R = _ from HR,dc_t ⟨(by first | rfl | trivial),HH1⟩];first | rfl | (simp [*];done),(show ∀ W,Below W2.heap.size W2 W→Below w.heap.size w W from HBL) _ B1⟩
    · rw [dc_f h1]
      have HN9:Hid (Nt (br ⟨27,f,t,l,o,m,x⟩ p false false false false)):=h1
      clear h1
      go_wp2_with fail
      go_ret
      exact ⟨by rw [show R = _ from HR,dc_f (fun g=>HN9 g.2)];first | rfl | (simp [*];done),(show ∀ W,Below W2.heap.size W2 W→Below w.heap.size w W from HBL) _ B1⟩
  · have e0:((q:Int) == 0)=false:=bne (by omega)
    have HN9:Hid (Nt (q=0)):=hq0
    clear hq0
    go_enter Tryz.func68,Tryz.ntmps68
    unfold fmv
    dsimp only at hW2
    go_wp2_with fail
    go_ret
    exact ⟨by rw [show R = _ from HR,dc_f (fun g=>HN9 g.1)];rfl,bel2 _ _ _⟩
theorem xp_29 {nm : ByteArray → Prop} {w : World} {v : Value} {n : Nat} {F : Nat → Gv} {vn vk : Value} {p : Nat} {A : Nat → ByteArray} {q : Nat} {K : Nat → Int} (s : Sx nm w v n F vn vk p A q K) (a : Fv) (hk : a.k = 29) :
    Calls Tryz.prog 68 #[.agg #[v],fmv a vn vk] w fun e w'=>e = .returned (.bool (dc (q=2∧ex F K 0 2∧br a p false false false false)))∧Below w.heap.size w w':=by
  have hs:=s.sy a 31 64
  obtain ⟨W2,hW2⟩:∃ W2,W2=(w.alloc (.cells #[v] 31)).alloc (.cells #[.int .i64 a.k,.int .i64 a.f,.int .i64 a.t,.int .i64 a.l,.int .i64 a.o,.int .i64 a.m,.string a.x,vn,vk] 64):=⟨_,rfl⟩
  rw [← hW2] at hs
  have HBL:Hid (∀ W,Below W2.heap.size W2 W→Below w.heap.size w W):=(fun W hb=>by rw [hW2] at hb;exact (bel2 w _ _).trans (hb.mono (bel2 w _ _).size):∀ W,_)
  have HSY:Hid (Sy nm W2 w.heap.size v n F a vn vk p A q K):=hs
  have hqI:(q:Int)≤1048576:=by have:=s.hq;omega
  obtain ⟨pn,cn,rfl,_⟩:=s.rn
  obtain ⟨pk,ck,rfl,_⟩:=s.rk
  obtain ⟨pf,cf,rfl,_⟩:=s.rf
  have HSQ:Hid (q≤1048576):=s.hq
  obtain ⟨R,hR⟩:∃ R,R=dc (q=2∧ex F K 0 2∧br a p false false false false):=⟨_,rfl⟩
  have HR:Hid (R=dc (q=2∧ex F K 0 2∧br a p false false false false)):=hR
  rw [← hR]
  clear hs s hR
  obtain ⟨k,f,t,l,o,m,x⟩:=a
  dsimp only at hk
  subst hk
  by_cases hq0:q=2
  · subst hq0
    go_enter Tryz.func68,Tryz.ntmps68
    unfold fmv
    dsimp only at hW2
    go_wp2_with fail
    rw [← hW2]
    clear hW2
    have B0:Below W2.heap.size W2 W2:=Below.refl _ _
    obtain ⟨c0,c1,c2,c3,c4,c5,c6,c7,c8⟩:=(show Sy nm W2 w.heap.size _ n F _ _ _ p A _ K from HSY).bx
    have ct:=(show Sy nm W2 w.heap.size _ n F _ _ _ p A _ K from HSY).ct
    dsimp only at c0 c1 c2 c3 c4 c5 c6
    go_wp2_with fail
    refine ((show Sy nm W2 w.heap.size _ n F _ _ _ p A _ K from HSY).exprs _ _ 0 2 rfl (by first | rfl | omega) (by omega) (by omega) _ B0).mono ?_
    rintro e w1 ⟨rfl,B1⟩
    clear c0 c1 c2 c3 c4 c5 c6 c7 c8 ct
    obtain ⟨c0,c1,c2,c3,c4,c5,c6,c7,c8⟩:=(show Sy nm W2 w.heap.size _ n F _ _ _ p A _ K from HSY).bx.below B1
    have ct:=(B1.cell (p:=⟨w.heap.size,0,none⟩) (lt_of_cell (show Sy nm W2 w.heap.size _ n F _ _ _ p A _ K from HSY).ct)).trans (show Sy nm W2 w.heap.size _ n F _ _ _ p A _ K from HSY).ct
    dsimp only at c0 c1 c2 c3 c4 c5 c6
    by_cases h1:ex F K 0 2
    · rw [dc_t h1]
      have HH1:Hid (ex F K 0 2):=h1
      clear h1
      go_wp2_with fail
      refine ((show Sy nm W2 w.heap.size _ n F _ _ _ p A _ K from HSY).bare false false false false _ B1).mono ?_
      rintro e w2 ⟨rfl,B2⟩
      clear c0 c1 c2 c3 c4 c5 c6 c7 c8 ct
      obtain ⟨c0,c1,c2,c3,c4,c5,c6,c7,c8⟩:=(show Sy nm W2 w.heap.size _ n F _ _ _ p A _ K from HSY).bx.below B2
      have ct:=(B2.cell (p:=⟨w.heap.size,0,none⟩) (lt_of_cell (show Sy nm W2 w.heap.size _ n F _ _ _ p A _ K from HSY).ct)).trans (show Sy nm W2 w.heap.size _ n F _ _ _ p A _ K from HSY).ct
      dsimp only at c0 c1 c2 c3 c4 c5 c6
      by_cases h2:br ⟨29,f,t,l,o,m,x⟩ p false false false false
      · rw [dc_t h2]
        have HH2:Hid (br ⟨29,f,t,l,o,m,x⟩ p false false false false):=h2
        clear h2
        go_wp2_with fail
        go_ret
        exact ⟨by rw [show R = _ from HR,dc_t ⟨(by first | rfl | trivial),HH1,HH2⟩];first | rfl | (simp [*];done),(show ∀ W,Below W2.heap.size W2 W→Below w.heap.size w W from HBL) _ B2⟩
      · rw [dc_f h2]
        have HN9:Hid (Nt (br ⟨29,f,t,l,o,m,x⟩ p false false false false)):=h2
        clear h2
        go_wp2_with fail
        go_ret
        exact ⟨by rw [show R = _ from HR,dc_f (fun g=>HN9 g.2.2)];first | rfl | (simp [*];done),(show ∀ W,Below W2.heap.size W2 W→Below w.heap.size w W from HBL) _ B2⟩
    · rw [dc_f h1]
      have HN9:Hid (Nt (ex F K 0 2)):=h1
      clear h1
      go_wp2_with fail
      go_ret
      exact ⟨by rw [show R = _ from HR,dc_f (fun g=>HN9 g.2.1)];first | rfl | (simp [*];done),(show ∀ W,Below W2.heap.size W2 W→Below w.heap.size w W from HBL) _ B1⟩
  · have e0:((q:Int) == 2)=false:=bne (by omega)
    have HN9:Hid (Nt (q=2)):=hq0
    clear hq0
    go_enter Tryz.func68,Tryz.ntmps68
    unfold fmv
    dsimp only at hW2
    go_wp2_with fail
    go_ret
    exact ⟨by rw [show R = _ from HR,dc_f (fun g=>HN9 g.1)];rfl,bel2 _ _ _⟩
theorem xp_40 {nm : ByteArray → Prop} {w : World} {v : Value} {n : Nat} {F : Nat → Gv} {vn vk : Value} {p : Nat} {A : Nat → ByteArray} {q : Nat} {K : Nat → Int} (s : Sx nm w v n F vn vk p A q K) (a : Fv) (hk : a.k = 40) :
    Calls Tryz.prog 68 #[.agg #[v],fmv a vn vk] w fun e w'=>e = .returned (.bool (dc (q=1∧ex F K 0 1∧br a p false false false false)))∧Below w.heap.size w w':=by
  have hs:=s.sy a 31 64
  obtain ⟨W2,hW2⟩:∃ W2,W2=(w.alloc (.cells #[v] 31)).alloc (.cells #[.int .i64 a.k,.int .i64 a.f,.int .i64 a.t,.int .i64 a.l,.int .i64 a.o,.int .i64 a.m,.string a.x,vn,vk] 64):=⟨_,rfl⟩
  rw [← hW2] at hs
  have HBL:Hid (∀ W,Below W2.heap.size W2 W→Below w.heap.size w W):=(fun W hb=>by rw [hW2] at hb;exact (bel2 w _ _).trans (hb.mono (bel2 w _ _).size):∀ W,_)
  have HSY:Hid (Sy nm W2 w.heap.size v n F a vn vk p A q K):=hs
  have hqI:(q:Int)≤1048576:=by have:=s.hq;omega
  obtain ⟨pn,cn,rfl,_⟩:=s.rn
  obtain ⟨pk,ck,rfl,_⟩:=s.rk
  obtain ⟨pf,cf,rfl,_⟩:=s.rf
  have HSQ:Hid (q≤1048576):=s.hq
  obtain ⟨R,hR⟩:∃ R,R=dc (q=1∧ex F K 0 1∧br a p false false false false):=⟨_,rfl⟩
  have HR:Hid (R=dc (q=1∧ex F K 0 1∧br a p false false false false)):=hR
  rw [← hR]
  clear hs s hR
  obtain ⟨k,f,t,l,o,m,x⟩:=a
  dsimp only at hk
  subst hk
  by_cases hq0:q=1
  · subst hq0
    go_enter Tryz.func68,Tryz.ntmps68
    unfold fmv
    dsimp only at hW2
    go_wp2_with fail
    rw [← hW2]
    clear hW2
    have B0:Below W2.heap.size W2 W2:=Below.refl _ _
    obtain ⟨c0,c1,c2,c3,c4,c5,c6,c7,c8⟩:=(show Sy nm W2 w.heap.size _ n F _ _ _ p A _ K from HSY).bx
    have ct:=(show Sy nm W2 w.heap.size _ n F _ _ _ p A _ K from HSY).ct
    dsimp only at c0 c1 c2 c3 c4 c5 c6
    go_wp2_with fail
    refine ((show Sy nm W2 w.heap.size _ n F _ _ _ p A _ K from HSY).exprs _ _ 0 1 rfl (by first | rfl | omega) (by omega) (by omega) _ B0).mono ?_
    rintro e w1 ⟨rfl,B1⟩
    clear c0 c1 c2 c3 c4 c5 c6 c7 c8 ct
    obtain ⟨c0,c1,c2,c3,c4,c5,c6,c7,c8⟩:=(show Sy nm W2 w.heap.size _ n F _ _ _ p A _ K from HSY).bx.below B1
    have ct:=(B1.cell (p:=⟨w.heap.size,0,none⟩) (lt_of_cell (show Sy nm W2 w.heap.size _ n F _ _ _ p A _ K from HSY).ct)).trans (show Sy nm W2 w.heap.size _ n F _ _ _ p A _ K from HSY).ct
    dsimp only at c0 c1 c2 c3 c4 c5 c6
    by_cases h1:ex F K 0 1
    · rw [dc_t h1]
      have HH1:Hid (ex F K 0 1):=h1
      clear h1
      go_wp2_with fail
      refine ((show Sy nm W2 w.heap.size _ n F _ _ _ p A _ K from HSY).bare false false false false _ B1).mono ?_
      rintro e w2 ⟨rfl,B2⟩
      clear c0 c1 c2 c3 c4 c5 c6 c7 c8 ct
      obtain ⟨c0,c1,c2,c3,c4,c5,c6,c7,c8⟩:=(show Sy nm W2 w.heap.size _ n F _ _ _ p A _ K from HSY).bx.below B2
      have ct:=(B2.cell (p:=⟨w.heap.size,0,none⟩) (lt_of_cell (show Sy nm W2 w.heap.size _ n F _ _ _ p A _ K from HSY).ct)).trans (show Sy nm W2 w.heap.size _ n F _ _ _ p A _ K from HSY).ct
      dsimp only at c0 c1 c2 c3 c4 c5 c6
      by_cases h2:br ⟨40,f,t,l,o,m,x⟩ p false false false false
      · rw [dc_t h2]
        have HH2:Hid (br ⟨40,f,t,l,o,m,x⟩ p false false false false):=h2
        clear h2
        go_wp2_with fail
        go_ret
        exact ⟨by rw [show R = _ from HR,dc_t ⟨(by first | rfl | trivial),HH1,HH2⟩];first | rfl | (simp [*];done),(show ∀ W,Below W2.heap.size W2 W→Below w.heap.size w W from HBL) _ B2⟩
      · rw [dc_f h2]
        have HN9:Hid (Nt (br ⟨40,f,t,l,o,m,x⟩ p false false false false)):=h2
        clear h2
        go_wp2_with fail
        go_ret
        exact ⟨by rw [show R = _ from HR,dc_f (fun g=>HN9 g.2.2)];first | rfl | (simp [*];done),(show ∀ W,Below W2.heap.size W2 W→Below w.heap.size w W from HBL) _ B2⟩
    · rw [dc_f h1]
      have HN9:Hid (Nt (ex F K 0 1)):=h1
      clear h1
      go_wp2_with fail
      go_ret
      exact ⟨by rw [show R = _ from HR,dc_f (fun g=>HN9 g.2.1)];first | rfl | (simp [*];done),(show ∀ W,Below W2.heap.size W2 W→Below w.heap.size w W from HBL) _ B1⟩
  · have e0:((q:Int) == 1)=false:=bne (by omega)
    have HN9:Hid (Nt (q=1)):=hq0
    clear hq0
    go_enter Tryz.func68,Tryz.ntmps68
    unfold fmv
    dsimp only at hW2
    go_wp2_with fail
    go_ret
    exact ⟨by rw [show R = _ from HR,dc_f (fun g=>HN9 g.1)];rfl,bel2 _ _ _⟩
theorem xp_41 {nm : ByteArray → Prop} {w : World} {v : Value} {n : Nat} {F : Nat → Gv} {vn vk : Value} {p : Nat} {A : Nat → ByteArray} {q : Nat} {K : Nat → Int} (s : Sx nm w v n F vn vk p A q K) (a : Fv) (hk : a.k = 41) :
    Calls Tryz.prog 68 #[.agg #[v],fmv a vn vk] w fun e w'=>e = .returned (.bool (dc (q=2∧ex F K 0 2∧br a p false false false false)))∧Below w.heap.size w w':=by
  have hs:=s.sy a 31 64
  obtain ⟨W2,hW2⟩:∃ W2,W2=(w.alloc (.cells #[v] 31)).alloc (.cells #[.int .i64 a.k,.int .i64 a.f,.int .i64 a.t,.int .i64 a.l,.int .i64 a.o,.int .i64 a.m,.string a.x,vn,vk] 64):=⟨_,rfl⟩
  rw [← hW2] at hs
  have HBL:Hid (∀ W,Below W2.heap.size W2 W→Below w.heap.size w W):=(fun W hb=>by rw [hW2] at hb;exact (bel2 w _ _).trans (hb.mono (bel2 w _ _).size):∀ W,_)
  have HSY:Hid (Sy nm W2 w.heap.size v n F a vn vk p A q K):=hs
  have hqI:(q:Int)≤1048576:=by have:=s.hq;omega
  obtain ⟨pn,cn,rfl,_⟩:=s.rn
  obtain ⟨pk,ck,rfl,_⟩:=s.rk
  obtain ⟨pf,cf,rfl,_⟩:=s.rf
  have HSQ:Hid (q≤1048576):=s.hq
  obtain ⟨R,hR⟩:∃ R,R=dc (q=2∧ex F K 0 2∧br a p false false false false):=⟨_,rfl⟩
  have HR:Hid (R=dc (q=2∧ex F K 0 2∧br a p false false false false)):=hR
  rw [← hR]
  clear hs s hR
  obtain ⟨k,f,t,l,o,m,x⟩:=a
  dsimp only at hk
  subst hk
  by_cases hq0:q=2
  · subst hq0
    go_enter Tryz.func68,Tryz.ntmps68
    unfold fmv
    dsimp only at hW2
    go_wp2_with fail
    rw [← hW2]
    clear hW2
    have B0:Below W2.heap.size W2 W2:=Below.refl _ _
    obtain ⟨c0,c1,c2,c3,c4,c5,c6,c7,c8⟩:=(show Sy nm W2 w.heap.size _ n F _ _ _ p A _ K from HSY).bx
    have ct:=(show Sy nm W2 w.heap.size _ n F _ _ _ p A _ K from HSY).ct
    dsimp only at c0 c1 c2 c3 c4 c5 c6
    go_wp2_with fail
    refine ((show Sy nm W2 w.heap.size _ n F _ _ _ p A _ K from HSY).exprs _ _ 0 2 rfl (by first | rfl | omega) (by omega) (by omega) _ B0).mono ?_
    rintro e w1 ⟨rfl,B1⟩
    clear c0 c1 c2 c3 c4 c5 c6 c7 c8 ct
    obtain ⟨c0,c1,c2,c3,c4,c5,c6,c7,c8⟩:=(show Sy nm W2 w.heap.size _ n F _ _ _ p A _ K from HSY).bx.below B1
    have ct:=(B1.cell (p:=⟨w.heap.size,0,none⟩) (lt_of_cell (show Sy nm W2 w.heap.size _ n F _ _ _ p A _ K from HSY).ct)).trans (show Sy nm W2 w.heap.size _ n F _ _ _ p A _ K from HSY).ct
    dsimp only at c0 c1 c2 c3 c4 c5 c6
    by_cases h1:ex F K 0 2
    · rw [dc_t h1]
      have HH1:Hid (ex F K 0 2):=h1
      clear h1
      go_wp2_with fail
      refine ((show Sy nm W2 w.heap.size _ n F _ _ _ p A _ K from HSY).bare false false false false _ B1).mono ?_
      rintro e w2 ⟨rfl,B2⟩
      clear c0 c1 c2 c3 c4 c5 c6 c7 c8 ct
      obtain ⟨c0,c1,c2,c3,c4,c5,c6,c7,c8⟩:=(show Sy nm W2 w.heap.size _ n F _ _ _ p A _ K from HSY).bx.below B2
      have ct:=(B2.cell (p:=⟨w.heap.size,0,none⟩) (lt_of_cell (show Sy nm W2 w.heap.size _ n F _ _ _ p A _ K from HSY).ct)).trans (show Sy nm W2 w.heap.size _ n F _ _ _ p A _ K from HSY).ct
      dsimp only at c0 c1 c2 c3 c4 c5 c6
      by_cases h2:br ⟨41,f,t,l,o,m,x⟩ p false false false false
      · rw [dc_t h2]
        have HH2:Hid (br ⟨41,f,t,l,o,m,x⟩ p false false false false):=h2
        clear h2
        go_wp2_with fail
        go_ret
        exact ⟨by rw [show R = _ from HR,dc_t ⟨(by first | rfl | trivial),HH1,HH2⟩];first | rfl | (simp [*];done),(show ∀ W,Below W2.heap.size W2 W→Below w.heap.size w W from HBL) _ B2⟩
      · rw [dc_f h2]
        have HN9:Hid (Nt (br ⟨41,f,t,l,o,m,x⟩ p false false false false)):=h2
        clear h2
        go_wp2_with fail
        go_ret
        exact ⟨by rw [show R = _ from HR,dc_f (fun g=>HN9 g.2.2)];first | rfl | (simp [*];done),(show ∀ W,Below W2.heap.size W2 W→Below w.heap.size w W from HBL) _ B2⟩
    · rw [dc_f h1]
      have HN9:Hid (Nt (ex F K 0 2)):=h1
      clear h1
      go_wp2_with fail
      go_ret
      exact ⟨by rw [show R = _ from HR,dc_f (fun g=>HN9 g.2.1)];first | rfl | (simp [*];done),(show ∀ W,Below W2.heap.size W2 W→Below w.heap.size w W from HBL) _ B1⟩
  · have e0:((q:Int) == 2)=false:=bne (by omega)
    have HN9:Hid (Nt (q=2)):=hq0
    clear hq0
    go_enter Tryz.func68,Tryz.ntmps68
    unfold fmv
    dsimp only at hW2
    go_wp2_with fail
    go_ret
    exact ⟨by rw [show R = _ from HR,dc_f (fun g=>HN9 g.1)];rfl,bel2 _ _ _⟩
theorem xp_42 {nm : ByteArray → Prop} {w : World} {v : Value} {n : Nat} {F : Nat → Gv} {vn vk : Value} {p : Nat} {A : Nat → ByteArray} {q : Nat} {K : Nat → Int} (s : Sx nm w v n F vn vk p A q K) (a : Fv) (hk : a.k = 42) :
    Calls Tryz.prog 68 #[.agg #[v],fmv a vn vk] w fun e w'=>e = .returned (.bool (dc (q=1∧ex F K 0 1∧br a p false false true false∧nm a.x)))∧Below w.heap.size w w':=by
  have hs:=s.sy a 31 64
  obtain ⟨W2,hW2⟩:∃ W2,W2=(w.alloc (.cells #[v] 31)).alloc (.cells #[.int .i64 a.k,.int .i64 a.f,.int .i64 a.t,.int .i64 a.l,.int .i64 a.o,.int .i64 a.m,.string a.x,vn,vk] 64):=⟨_,rfl⟩
  rw [← hW2] at hs
  have HBL:Hid (∀ W,Below W2.heap.size W2 W→Below w.heap.size w W):=(fun W hb=>by rw [hW2] at hb;exact (bel2 w _ _).trans (hb.mono (bel2 w _ _).size):∀ W,_)
  have HSY:Hid (Sy nm W2 w.heap.size v n F a vn vk p A q K):=hs
  have hqI:(q:Int)≤1048576:=by have:=s.hq;omega
  obtain ⟨pn,cn,rfl,_⟩:=s.rn
  obtain ⟨pk,ck,rfl,_⟩:=s.rk
  obtain ⟨pf,cf,rfl,_⟩:=s.rf
  have HSQ:Hid (q≤1048576):=s.hq
  obtain ⟨R,hR⟩:∃ R,R=dc (q=1∧ex F K 0 1∧br a p false false true false∧nm a.x):=⟨_,rfl⟩
  have HR:Hid (R=dc (q=1∧ex F K 0 1∧br a p false false true false∧nm a.x)):=hR
  rw [← hR]
  clear hs s hR
  obtain ⟨k,f,t,l,o,m,x⟩:=a
  dsimp only at hk
  subst hk
  by_cases hq0:q=1
  · subst hq0
    go_enter Tryz.func68,Tryz.ntmps68
    unfold fmv
    dsimp only at hW2
    go_wp2_with fail
    rw [← hW2]
    clear hW2
    have B0:Below W2.heap.size W2 W2:=Below.refl _ _
    obtain ⟨c0,c1,c2,c3,c4,c5,c6,c7,c8⟩:=(show Sy nm W2 w.heap.size _ n F _ _ _ p A _ K from HSY).bx
    have ct:=(show Sy nm W2 w.heap.size _ n F _ _ _ p A _ K from HSY).ct
    dsimp only at c0 c1 c2 c3 c4 c5 c6
    go_wp2_with fail
    refine ((show Sy nm W2 w.heap.size _ n F _ _ _ p A _ K from HSY).exprs _ _ 0 1 rfl (by first | rfl | omega) (by omega) (by omega) _ B0).mono ?_
    rintro e w1 ⟨rfl,B1⟩
    clear c0 c1 c2 c3 c4 c5 c6 c7 c8 ct
    obtain ⟨c0,c1,c2,c3,c4,c5,c6,c7,c8⟩:=(show Sy nm W2 w.heap.size _ n F _ _ _ p A _ K from HSY).bx.below B1
    have ct:=(B1.cell (p:=⟨w.heap.size,0,none⟩) (lt_of_cell (show Sy nm W2 w.heap.size _ n F _ _ _ p A _ K from HSY).ct)).trans (show Sy nm W2 w.heap.size _ n F _ _ _ p A _ K from HSY).ct
    dsimp only at c0 c1 c2 c3 c4 c5 c6
    by_cases h1:ex F K 0 1
    · rw [dc_t h1]
      have HH1:Hid (ex F K 0 1):=h1
      clear h1
      go_wp2_with fail
      refine ((show Sy nm W2 w.heap.size _ n F _ _ _ p A _ K from HSY).bare false false true false _ B1).mono ?_
      rintro e w2 ⟨rfl,B2⟩
      clear c0 c1 c2 c3 c4 c5 c6 c7 c8 ct
      obtain ⟨c0,c1,c2,c3,c4,c5,c6,c7,c8⟩:=(show Sy nm W2 w.heap.size _ n F _ _ _ p A _ K from HSY).bx.below B2
      have ct:=(B2.cell (p:=⟨w.heap.size,0,none⟩) (lt_of_cell (show Sy nm W2 w.heap.size _ n F _ _ _ p A _ K from HSY).ct)).trans (show Sy nm W2 w.heap.size _ n F _ _ _ p A _ K from HSY).ct
      dsimp only at c0 c1 c2 c3 c4 c5 c6
      by_cases h2:br ⟨42,f,t,l,o,m,x⟩ p false false true false
      · rw [dc_t h2]
        have HH2:Hid (br ⟨42,f,t,l,o,m,x⟩ p false false true false):=h2
        clear h2
        go_wp2_with fail
        refine ((((show Sy nm W2 w.heap.size _ n F _ _ _ p A _ K from HSY).hn x _).mono fun _ _ h=>(⟨h.1,below_to B2 h.2⟩:_∧Below W2.heap.size W2 _))).mono ?_
        rintro e w3 ⟨rfl,B3⟩
        clear c0 c1 c2 c3 c4 c5 c6 c7 c8 ct
        obtain ⟨c0,c1,c2,c3,c4,c5,c6,c7,c8⟩:=(show Sy nm W2 w.heap.size _ n F _ _ _ p A _ K from HSY).bx.below B3
        have ct:=(B3.cell (p:=⟨w.heap.size,0,none⟩) (lt_of_cell (show Sy nm W2 w.heap.size _ n F _ _ _ p A _ K from HSY).ct)).trans (show Sy nm W2 w.heap.size _ n F _ _ _ p A _ K from HSY).ct
        dsimp only at c0 c1 c2 c3 c4 c5 c6
        by_cases h3:nm x
        · rw [dc_t h3]
          have HH3:Hid (nm x):=h3
          clear h3
          go_wp2_with fail
          go_ret
          exact ⟨by rw [show R = _ from HR,dc_t ⟨(by first | rfl | trivial),HH1,HH2,HH3⟩];first | rfl | (simp [*];done),(show ∀ W,Below W2.heap.size W2 W→Below w.heap.size w W from HBL) _ B3⟩
        · rw [dc_f h3]
          have HN9:Hid (Nt (nm x)):=h3
          clear h3
          go_wp2_with fail
          go_ret
          exact ⟨by rw [show R = _ from HR,dc_f (fun g=>HN9 g.2.2.2)];first | rfl | (simp [*];done),(show ∀ W,Below W2.heap.size W2 W→Below w.heap.size w W from HBL) _ B3⟩
      · rw [dc_f h2]
        have HN9:Hid (Nt (br ⟨42,f,t,l,o,m,x⟩ p false false true false)):=h2
        clear h2
        go_wp2_with fail
        go_ret
        exact ⟨by rw [show R = _ from HR,dc_f (fun g=>HN9 g.2.2.1)];first | rfl | (simp [*];done),(show ∀ W,Below W2.heap.size W2 W→Below w.heap.size w W from HBL) _ B2⟩
    · rw [dc_f h1]
      have HN9:Hid (Nt (ex F K 0 1)):=h1
      clear h1
      go_wp2_with fail
      go_ret
      exact ⟨by rw [show R = _ from HR,dc_f (fun g=>HN9 g.2.1)];first | rfl | (simp [*];done),(show ∀ W,Below W2.heap.size W2 W→Below w.heap.size w W from HBL) _ B1⟩
  · have e0:((q:Int) == 1)=false:=bne (by omega)
    have HN9:Hid (Nt (q=1)):=hq0
    clear hq0
    go_enter Tryz.func68,Tryz.ntmps68
    unfold fmv
    dsimp only at hW2
    go_wp2_with fail
    go_ret
    exact ⟨by rw [show R = _ from HR,dc_f (fun g=>HN9 g.1)];rfl,bel2 _ _ _⟩
theorem sp_st {nm : ByteArray → Prop} (fl : ByteArray → Prop) {w : World} {v : Value} {n : Nat} {F : Nat → Gv} {vn vk : Value} {p : Nat} {A : Nat → ByteArray} {q : Nat} {K : Nat → Int} (s : Sx nm w v n F vn vk p A q K) (a : Fv) (h : 1 ≤ a.k ∧ a.k ≤ 16) :
    Calls Tryz.prog 67 #[.agg #[v],fmv a vn vk] w fun e w'=>e = .returned (.bool (dc (shk nm fl F a p A q K)))∧Below w.heap.size w w':=by
  have hc:a.k=1∨a.k=2∨a.k=3∨a.k=4∨a.k=5∨a.k=6∨a.k=7∨a.k=8∨a.k=9∨a.k=10∨a.k=11∨a.k=12∨a.k=13∨a.k=14∨a.k=15∨a.k=16:=by omega
  rcases hc with h | h | h | h | h | h | h | h | h | h | h | h | h | h | h | h
  · rw [shk_1 h];exact st_1 s a h
  · rw [shk_2 h];exact st_2 s a h
  · rw [shk_3 h];exact st_3 s a h
  · rw [shk_4 h];exact st_4 s a h
  · rw [shk_5 h];exact st_5 s a h
  · rw [shk_6 h];exact st_6 s a h
  · rw [shk_7 h];exact st_7 s a h
  · rw [shk_8 h];exact st_8 s a h
  · rw [shk_9 h];exact st_9 s a h
  · rw [shk_10 h];exact st_10 s a h
  · rw [shk_11 h];exact st_11 s a h
  · rw [shk_12 h];exact st_12 s a h
  · rw [shk_13 h];exact st_13 s a h
  · rw [shk_14 h];exact st_14 s a h
  · rw [shk_15 h];exact st_15 s a h
  · rw [shk_16 h];exact st_16 s a h
theorem xp_other {w : World} {v : Value} {n : Nat} {F : Nat → Gv} {vn vk : Value} {p : Nat} {A : Nat → ByteArray} {q : Nat} {K : Nat → Int} {nm : ByteArray → Prop} (s : Sx nm w v n F vn vk p A q K) (a : Fv) (h : ¬ (20 ≤ a.k ∧ a.k ≤ 37)) (h2 : ¬ (40 ≤ a.k ∧ a.k ≤ 42)) :
    Calls Tryz.prog 68 #[.agg #[v],fmv a vn vk] w fun e w'=>e = .returned (.bool false)∧Below w.heap.size w w':=by
  obtain ⟨pn,cn,rfl,_⟩:=s.rn
  obtain ⟨pk,ck,rfl,_⟩:=s.rk
  obtain ⟨pf,cf,rfl,_⟩:=s.rf
  have hqI:(q:Int)≤1048576:=by have:=s.hq;omega
  clear s
  obtain ⟨k,f,t,l,o,m,x⟩:=a
  dsimp only at h h2
  have e20:(k == 20)=false:=bne (by omega)
  have e21:(k == 21)=false:=bne (by omega)
  have e22:(k == 22)=false:=bne (by omega)
  have e23:(k == 23)=false:=bne (by omega)
  have e24:(k == 24)=false:=bne (by omega)
  have e25:(k == 25)=false:=bne (by omega)
  have e26:(k == 26)=false:=bne (by omega)
  have e27:(k == 27)=false:=bne (by omega)
  have e28:(k == 28)=false:=bne (by omega)
  have e29:(k == 29)=false:=bne (by omega)
  have e30:(k == 30)=false:=bne (by omega)
  have e31:(k == 31)=false:=bne (by omega)
  have e32:(k == 32)=false:=bne (by omega)
  have e33:(k == 33)=false:=bne (by omega)
  have e34:(k == 34)=false:=bne (by omega)
  have e35:(k == 35)=false:=bne (by omega)
  have e36:(k == 36)=false:=bne (by omega)
  have e37:(k == 37)=false:=bne (by omega)
  have e40:(k == 40)=false:=bne (by omega)
  have e41:(k == 41)=false:=bne (by omega)
  have e42:(k == 42)=false:=bne (by omega)
  clear h h2
  unfold fmv
  dsimp only
  go_enter Tryz.func68,Tryz.ntmps68
  go_wp2_with fail
  go_ret
  exact ⟨rfl,bel2 _ _ _⟩
theorem sp_xp {nm fl : ByteArray → Prop} (HFL : FlS fl) {w : World} {v : Value} {n : Nat} {F : Nat → Gv} {vn vk : Value} {p : Nat} {A : Nat → ByteArray} {q : Nat} {K : Nat → Int} (s : Sx nm w v n F vn vk p A q K) (a : Fv) (h : ¬ (1 ≤ a.k ∧ a.k ≤ 16)) :
    Calls Tryz.prog 68 #[.agg #[v],fmv a vn vk] w fun e w'=>e = .returned (.bool (dc (shk nm fl F a p A q K)))∧Below w.heap.size w w':=by
  by_cases h1 : 20≤a.k∧a.k≤37
  · have hc:a.k=20∨a.k=21∨a.k=22∨a.k=23∨a.k=24∨a.k=25∨a.k=26∨a.k=27∨a.k=28∨a.k=29∨a.k=30∨a.k=31∨a.k=32∨a.k=33∨a.k=34∨a.k=35∨a.k=36∨a.k=37:=by omega
    rcases hc with h | h | h | h | h | h | h | h | h | h | h | h | h | h | h | h | h | h
    · rw [shk_20 (by assumption)];exact xp_20 s a (by assumption)
    · rw [shk_21 (by assumption)];exact xp_21 s a (by assumption)
    · rw [shk_22 (by assumption)];exact xp_22 s a (by assumption)
    · rw [shk_23 (by assumption)];exact xp_23 s a (by assumption)
    · rw [shk_24 (by assumption)];exact xp_24 HFL s a (by assumption)
    · rw [shk_25 (by assumption)];exact xp_25 s a (by assumption)
    · rw [shk_26 (by assumption)];exact xp_26 s a (by assumption)
    · rw [shk_27 (by assumption)];exact xp_27 s a (by assumption)
    · rw [shk_28 (by assumption)];exact xp_28 s a (by assumption)
    · rw [shk_29 (by assumption)];exact xp_29 s a (by assumption)
    · rw [shk_30 (by assumption)];exact xp_30 s a (by assumption)
    · rw [shk_31 (by assumption)];exact xp_31 s a (by assumption)
    · rw [shk_32 (by assumption)];exact xp_32 s a (by assumption)
    · rw [shk_33 (by assumption)];exact xp_33 s a (by assumption)
    · rw [shk_34 (by assumption)];exact xp_34 s a (by assumption)
    · rw [shk_35 (by assumption)];exact xp_35 s a (by assumption)
    · rw [shk_36 (by assumption)];exact xp_36 s a (by assumption)
    · rw [shk_37 (by assumption)];exact xp_37 s a (by assumption)
  · by_cases h2 : 40≤a.k∧a.k≤42
    · have hc:a.k=40∨a.k=41∨a.k=42:=by omega
      rcases hc with h | h | h
      · rw [shk_40 (by assumption)];exact xp_40 s a (by assumption)
      · rw [shk_41 (by assumption)];exact xp_41 s a (by assumption)
      · rw [shk_42 (by assumption)];exact xp_42 s a (by assumption)
    · have hf : ¬ shk nm fl F a p A q K := by
        unfold shk
        rw [if_neg (by omega)]
        rw [if_neg (by omega)]
        rw [if_neg (by omega)]
        rw [if_neg (by omega)]
        rw [if_neg (by omega)]
        rw [if_neg (by omega)]
        rw [if_neg (by omega)]
        rw [if_neg (by omega)]
        rw [if_neg (by omega)]
        rw [if_neg (by omega)]
        rw [if_neg (by omega)]
        rw [if_neg (by omega)]
        rw [if_neg (by omega)]
        rw [if_neg (by omega)]
        rw [if_neg (by omega)]
        rw [if_neg (by omega)]
        rw [if_neg (by omega)]
        rw [if_neg (by omega)]
        rw [if_neg (by omega)]
        rw [if_neg (by omega)]
        rw [if_neg (by omega)]
        rw [if_neg (by omega)]
        rw [if_neg (by omega)]
        rw [if_neg (by omega)]
        rw [if_neg (by omega)]
        rw [if_neg (by omega)]
        rw [if_neg (by omega)]
        rw [if_neg (by omega)]
        rw [if_neg (by omega)]
        rw [if_neg (by omega)]
        rw [if_neg (by omega)]
        rw [if_neg (by omega)]
        rw [if_neg (by omega)]
        rw [if_neg (by omega)]
        rw [if_neg (by omega)]
        rw [if_neg (by omega)]
        rw [if_neg (by omega)]
        exact fun f=>f
      rw [dc_f hf]
      exact xp_other s a h1 h2
theorem sp_node {nm fl : ByteArray → Prop} (HN : NmS nm) (HFL : FlS fl) {v : Value} {n : Nat} {F : Nat → Gv} (w : World) (hf : RowF w v n F) (i : Nat) (hi : i < n) (hn : n ≤ 1048576) (hp : (F i).p ≤ 1048576) (hq : (F i).q ≤ 1048576) :
    Calls Tryz.prog 34 #[.agg #[v],.int .i64 (i:Int)] w fun e w'=>e = .returned (.bool (dc (ndk nm fl F i)))∧Below w.heap.size w w':=by
  obtain ⟨pf,cf,rfl,hf2⟩:=hf
  have hf3:RowF w (.slice pf n cf) n F:=⟨pf,cf,rfl,hf2⟩
  obtain ⟨c,rfl,hcc,hrc⟩:=hf2 (by omega)
  obtain ⟨vn,vk,hc,hrn,hrk⟩:=hrc i hi
  obtain ⟨pn,cn,rfl,hn2⟩:=hrn
  obtain ⟨pk,ck,rfl,hk2⟩:=hrk
  have hrn:RowV w (.slice pn (F i).p cn) (F i).p (fun j=>.string ((F i).A j)):=⟨pn,cn,rfl,hn2⟩
  have hrk:RowV w (.slice pk (F i).q ck) (F i).q (fun j=>.int .i64 ((F i).K j)):=⟨pk,ck,rfl,hk2⟩
  have hc':=fun o:Obj=>hc.below (bel1 w o)
  obtain ⟨W2,hW2⟩:∃ W2,W2=(w.alloc (.cells #[.slice (some c) n cf] 31)).alloc (.cells #[.int .i64 (F i).a.k,.int .i64 (F i).a.f,.int .i64 (F i).a.t,.int .i64 (F i).a.l,.int .i64 (F i).a.o,.int .i64 (F i).a.m,.string (F i).a.x,.slice pn (F i).p cn,.slice pk (F i).q ck] 64):=⟨_,rfl⟩
  have hb2:Below w.heap.size w W2:=by rw [hW2];exact bel2 _ _ _
  have hbx:Bx W2 (w.heap.size+1) (F i).a (.slice pn (F i).p cn) (.slice pk (F i).q ck):=by
    rw [hW2]
    have:=Bx.new (w.alloc (.cells #[.slice (some c) n cf] 31)) (F i).a (.slice pn (F i).p cn) (.slice pk (F i).q ck) 64
    simpa using this
  have hct:W2.cell? ⟨w.heap.size,0,none⟩=some (.slice (some c) n cf):=by
    rw [hW2,World.cell?_alloc_past _ _ _ (by simp),World.cell?_alloc_at _ _ _ _ rfl];rfl
  have HSX:Hid ((∀ j,j < (F i).q→0≤(F i).K j∧(F i).K j < (n:Int))→Sx nm W2 (.slice (some c) n cf) n F (.slice pn (F i).p cn) (.slice pk (F i).q ck) (F i).p (F i).A (F i).q (F i).K):=(fun h=>⟨HN,hf3.below hb2,hrn.below hb2,hrk.below hb2,hp,hq,hn,h⟩:_→_)
  have HB2:Hid (Below w.heap.size w W2):=hb2
  have HKC:Hid (∀ j,j < (F i).q→∃ b:Addr,pk=some b∧(F i).q≤ck∧W2.cell? (b.add j)=some (.int .i64 ((F i).K j))):=(fun j hj=>by
    obtain ⟨b,rfl,h1,h2⟩:=hk2 (by omega)
    exact ⟨b,rfl,h1,(hb2.cell (lt_of_cell' (h2 j hj))).trans (h2 j hj)⟩:∀ j,_)
  have HFLS:Hid (FlS fl):=HFL
  obtain ⟨R,hR⟩:∃ R,R=dc (ndk nm fl F i):=⟨_,rfl⟩
  have HR:Hid (R=dc (ndk nm fl F i)):=hR
  rw [← hR]
  have hiI:(i:Int) < (n:Int):=by omega
  have hnI:(n:Int)≤1048576:=by omega
  have hqI:((F i).q:Int)≤1048576:=by omega
  have HIN:Hid (i < n):=hi
  obtain ⟨d0,d1,d2,d3,d4,d5,d6,d7,d8⟩:=hc'  (.cells #[.slice (some c) n cf] 31)
  clear hR hb2 hc hc' hrc hf2 hf3 hrn hrk hn2 hk2 HN HFL hp hq hi hn
  go_enter Tryz.func34,Tryz.ntmps34
  have OUT:Hid (∀ g:ndk nm fl F i→False,R=false):=(fun g=>(show R = _ from HR).trans (dc_f g):∀ g:ndk nm fl F i→False,R=false)
  rcases Int.lt_or_le (F i).a.f 0 with h1 | h1
  · have HX:Hid (R=false):=OUT (fun g=>by have:=g.1;omega)
    clear hbx hct hW2
    go_wp2_with fail
    go_ret
    exact ⟨by rw [show R=false from HX];rfl,bel2 _ _ _⟩
  have h1':¬ (F i).a.f < 0:=by omega
  rcases Int.lt_or_le (F i).a.t (F i).a.f with h2 | h2
  · have HX:Hid (R=false):=OUT (fun g=>by have:=g.2.1;omega)
    clear hbx hct hW2
    go_wp2_with fail
    go_ret
    exact ⟨by rw [show R=false from HX];rfl,bel2 _ _ _⟩
  have h2':¬ (F i).a.t < (F i).a.f:=by omega
  rcases Int.lt_or_le (F i).a.l 0 with h3 | h3
  · have HX:Hid (R=false):=OUT (fun g=>by have:=g.2.2.1;omega)
    clear hbx hct hW2
    go_wp2_with fail
    go_ret
    exact ⟨by rw [show R=false from HX];rfl,bel2 _ _ _⟩
  have h3':¬ (F i).a.l < 0:=by omega
  rcases Int.lt_or_le 200 ((F i).q:Int) with h4 | h4
  · have HX:Hid (R=false):=OUT (fun g=>by have:=g.2.2.2.1;omega)
    clear hbx hct hW2
    go_wp2_with fail
    go_ret
    exact ⟨by rw [show R=false from HX];rfl,bel2 _ _ _⟩
  have h4':¬ 200 < ((F i).q:Int):=by omega
  have HH:Hid (0≤(F i).a.f∧(F i).a.f≤(F i).a.t∧0≤(F i).a.l∧(F i).q≤200):=(⟨h1,h2,h3,by omega⟩:_∧_∧_∧_)
  go_wp2_with fail
  rw [← hW2]
  clear hW2 d0 d1 d2 d3 d4 d5 d6 d7 d8
  obtain ⟨c0,c1,c2,c3,c4,c5,c6,c7,c8⟩:=hbx
  clear h1 h1' h2 h2' h3 h3' h4 h4'
  go_loopw [37] (fun sr wr=>∃ j:Nat,sr = .int .i64 (j:Int)∧j≤(F i).q∧wr=W2∧Hid (∀ j',j' < j→0≤(F i).K j'∧(F i).K j' < (i:Int))) (fun sr _=>(F i).q - (intOf sr).toNat)
  case atStart=>exact ⟨0,rfl,Nat.zero_le _,rfl,(fun j hj=>by omega:∀ j',j' < 0→_)⟩
  case round =>
    obtain ⟨j,rfl,hj,rfl,HI⟩:=hrel
    have hI:=(show ∀ j',j' < j→0≤(F i).K j'∧(F i).K j' < (i:Int) from HI)
    rcases Nat.lt_or_ge j (F i).q with hj2 | hj2
    · have hjI:(j:Int) < ((F i).q:Int):=by omega
      obtain ⟨b,rfl,hcb,q0⟩:=(show ∀ j,j < (F i).q→_ from HKC) j hj2
      rcases Int.lt_or_le ((F i).K j) 0 with g1 | g1
      · have HX:Hid (R=false):=OUT (fun g=>by have:=(g.2.2.2.2.1 j hj2).1;omega)
        clear hI HI hj c0 c1 c2 c3 c4 c5 c6 c7 c8 hct
        generalize (F i).K j=y at *
        go_wp2_with fail
        go_ret
        exact ⟨by rw [show R=false from HX];rfl,HB2⟩
      · have g1':¬ (F i).K j < 0:=by omega
        rcases Int.lt_or_le ((F i).K j) (i:Int) with g2 | g2
        · have g2':¬ (i:Int)≤(F i).K j:=by omega
          have HX:Hid (∀ j',j' < j+1→0≤(F i).K j'∧(F i).K j' < (i:Int)):=(fun j' hj'=>by
            by_cases e:j'=j
            · rw [e];exact ⟨g1,g2⟩
            · exact hI j' (by omega):∀ j',_)
          clear hI HI hj c0 c1 c2 c3 c4 c5 c6 c7 c8 hct
          generalize (F i).K j=y at *
          go_wp2_with fail
          go_roundw
          case rel=>exact ⟨j+1,by go_num,by omega,by trivial,HX⟩
          case measure=>simp [intOf];omega
        · have HX:Hid (R=false):=OUT (fun g=>by have:=(g.2.2.2.2.1 j hj2).2;omega)
          clear hI HI hj c0 c1 c2 c3 c4 c5 c6 c7 c8 hct
          generalize (F i).K j=y at *
          go_wp2_with fail
          go_ret
          exact ⟨by rw [show R=false from HX];rfl,HB2⟩
    · obtain rfl:j=(F i).q:=by omega
      have hsx:=(show (∀ j,j < (F i).q→0≤(F i).K j∧(F i).K j < (n:Int))→_ from HSX) (fun j hj=>by have:=hI j hj;omega)
      have hst:=fun W=>sp_stat (F i).a.k W
      have HIK:Hid (∀ j',j' < (F i).q→0≤(F i).K j'∧(F i).K j' < (i:Int)):=hI
      by_cases hk : 1≤(F i).a.k∧(F i).a.k≤16
      · rw [dc_t hk] at hst
        have HST:Hid (∀ W,Calls Tryz.prog 66 #[.int .i64 (F i).a.k] W fun e w'=>e = .returned (.bool true)∧w'=W):=hst
        have HC:Hid (Calls Tryz.prog 67 #[.agg #[.slice (some c) n cf],fmv (F i).a (.slice pn (F i).p cn) (.slice pk (F i).q ck)] wr fun e w'=>e = .returned (.bool (dc (shk nm fl F (F i).a (F i).p (F i).A (F i).q (F i).K)))∧Below wr.heap.size wr w'):=sp_st fl hsx (F i).a hk
        clear hI HI hsx hst hk
        go_wp2_with fail
        refine ((show ∀ W,_ from HST) _).mono ?_
        rintro e w1 ⟨rfl,rfl⟩
        go_wp2_with fail
        refine (show Calls Tryz.prog 67 #[.agg #[.slice (some c) n cf],fmv (F i).a (.slice pn (F i).p cn) (.slice pk (F i).q ck)] w1 fun e w'=>e = .returned (.bool (dc (shk nm fl F (F i).a (F i).p (F i).A (F i).q (F i).K)))∧Below w1.heap.size w1 w' from HC).mono ?_
        rintro e w2 ⟨rfl,b2⟩
        have HX:Hid (R=dc (shk nm fl F (F i).a (F i).p (F i).A (F i).q (F i).K)):=(show R = _ from HR).trans (dc_iff ⟨fun g=>g.2.2.2.2.2,fun g=>⟨HH.1,HH.2.1,HH.2.2.1,HH.2.2.2,HIK,g⟩⟩)
        have HB3:Hid (Below w.heap.size w w2):=(show Below w.heap.size w w1 from HB2).trans (b2.mono (show Below w.heap.size w w1 from HB2).size)
        clear b2 HC HST
        generalize dc (shk nm fl F (F i).a (F i).p (F i).A (F i).q (F i).K)=z at *
        go_wp2_with fail
        go_ret
        exact ⟨by rw [show R=z from HX];rfl,HB3⟩
      · rw [dc_f hk] at hst
        have HST:Hid (∀ W,Calls Tryz.prog 66 #[.int .i64 (F i).a.k] W fun e w'=>e = .returned (.bool false)∧w'=W):=hst
        have HC:Hid (Calls Tryz.prog 68 #[.agg #[.slice (some c) n cf],fmv (F i).a (.slice pn (F i).p cn) (.slice pk (F i).q ck)] wr fun e w'=>e = .returned (.bool (dc (shk nm fl F (F i).a (F i).p (F i).A (F i).q (F i).K)))∧Below wr.heap.size wr w'):=sp_xp HFLS hsx (F i).a hk
        clear hI HI hsx hst hk
        go_wp2_with fail
        refine ((show ∀ W,_ from HST) _).mono ?_
        rintro e w1 ⟨rfl,rfl⟩
        go_wp2_with fail
        refine (show Calls Tryz.prog 68 #[.agg #[.slice (some c) n cf],fmv (F i).a (.slice pn (F i).p cn) (.slice pk (F i).q ck)] w1 fun e w'=>e = .returned (.bool (dc (shk nm fl F (F i).a (F i).p (F i).A (F i).q (F i).K)))∧Below w1.heap.size w1 w' from HC).mono ?_
        rintro e w2 ⟨rfl,b2⟩
        have HX:Hid (R=dc (shk nm fl F (F i).a (F i).p (F i).A (F i).q (F i).K)):=(show R = _ from HR).trans (dc_iff ⟨fun g=>g.2.2.2.2.2,fun g=>⟨HH.1,HH.2.1,HH.2.2.1,HH.2.2.2,HIK,g⟩⟩)
        have HB3:Hid (Below w.heap.size w w2):=(show Below w.heap.size w w1 from HB2).trans (b2.mono (show Below w.heap.size w w1 from HB2).size)
        clear b2 HC HST
        generalize dc (shk nm fl F (F i).a (F i).p (F i).A (F i).q (F i).K)=z at *
        go_wp2_with fail
        go_ret
        exact ⟨by rw [show R=z from HX];rfl,HB3⟩
theorem sp_sizes {v : Value} {n : Nat} {F : Nat → Gv} (w : World) (hf : RowF w v n F) (hn : n ≤ 1048576) (hK : Kn F n) (hq : ∀ i, i < n → (F i).q ≤ 1048576) :
    Calls Tryz.prog 35 #[.agg #[v]] w fun e w'=>∃ u g,e = .returned u∧OwnR w' u g n (fun k=>.int .i64 (szl F n k))∧Below w.heap.size w w'∧w.heap.size≤g∧g < w'.heap.size:=by
  obtain ⟨pf,cf,rfl,hf2⟩:=hf
  have hnI:(n:Int)≤1048576:=by omega
  obtain ⟨w0,hw0⟩:∃ w0,w0=w.alloc (.cells #[.slice pf n cf] 31):=⟨_,rfl⟩
  have hmk:=run_make (P:=Tryz.prog) w0 36 3 Tryz.t3 (.int .i64 0) Tryz.underlying36 (by kernel_rfl) (by kernel_rfl) .i64 .i64 (n:Int) (n:Int) (by omega) (Int.le_refl _) (by show (8:Int)*(n:Int)≤_;omega) (by omega)
  rw [Int.toNat_natCast] at hmk
  obtain ⟨w1,hw1⟩:∃ w1,w1=w0.alloc (.cells (madeCells (.int .i64 0:Value).cells (n*Tryz.t3.size)) 3):=⟨_,rfl⟩
  rw [← hw1] at hmk
  obtain ⟨G,hG⟩:∃ G,G=w0.heap.size:=⟨_,rfl⟩
  have hG':G=w.heap.size+1:=by rw [hG,hw0];simp
  have c1:∀ j,j < n→w1.cell? ⟨G,j,none⟩=some (.int .i64 0):=by intro j hj;rw [hw1,hG];exact made_cell w0 _ 3 n rfl j hj
  have f1:∀ j,w1.frozen? ⟨G,j,none⟩=false:=by intro j;rw [hw1,hG];exact made_fz _ _ _ _
  have b01:Below w0.heap.size w0 w1:=by rw [hw1];exact bel1 _ _
  have b1:Below w.heap.size w w1:=(by rw [hw0];exact bel1 _ _:Below w.heap.size w w0).trans (b01.mono (by rw [hw0];simp))
  have l1:G < w1.heap.size:=by rw [hw1,hG];simp
  have hct0:w1.cell? ⟨w.heap.size,0,none⟩=some (.slice pf n cf):=by
    rw [b01.cell (p:=⟨w.heap.size,0,none⟩) (by rw [hw0];show w.heap.size < _;simp),hw0,World.cell?_alloc_at _ _ _ _ rfl];rfl
  have HI0:Hid (MkR w1 G n (fun _=>.int .i64 0) (fun k=>.int .i64 (szl F n k)) 0 w1):=(⟨Kq.refl _ _,fun i hi=>by omega,fun i _ hi=>c1 i hi,f1⟩:MkR w1 G n _ _ 0 w1)
  have HA:Hid ((0 < n→∃ a:Addr,pf=some a∧n≤cf∧∀ i,i < n→FormC w (a.add (i*9)) (F i))∧Below w.heap.size w w1∧G=w.heap.size+1∧G < w1.heap.size∧Kn F n∧(∀ i,i < n→(F i).q≤1048576)):=(⟨hf2,b1,hG',l1,hK,hq⟩:_∧_∧_∧_∧_∧_)
  rw [← hG] at hmk
  clear hf2 b1 c1 f1 hw1 hn l1 hG' hK hq b01 hG
  go_enter Tryz.func35,Tryz.ntmps35
  rw [hw0] at hmk
  go_wp2_with fail
  clear hmk hw0
  go_loopw [17] (fun sr wr=>∃ i:Nat,sr = .int .i64 (i:Int)∧i≤n∧Hid (MkR w1 G n (fun _=>.int .i64 0) (fun k=>.int .i64 (szl F n k)) i wr)) (fun sr _=>n - (intOf sr).toNat)
  case atStart=>exact ⟨0,rfl,Nat.zero_le _,HI0⟩
  case round =>
    clear HI0 hct0
    obtain ⟨i,rfl,hin,HI⟩:=hrel
    have hI:=(show MkR w1 G n (fun _=>.int .i64 0) (fun k=>.int .i64 (szl F n k)) i wr from HI)
    obtain ⟨a1,a2,a3,a4,a5,a6⟩:=(show (0 < n→∃ a:Addr,pf=some a∧n≤cf∧∀ i,i < n→FormC w (a.add (i*9)) (F i))∧Below w.heap.size w w1∧G=w.heap.size+1∧G < w1.heap.size∧Kn F n∧(∀ i,i < n→(F i).q≤1048576) from HA)
    have hBW:Below w.heap.size w wr:=⟨hI.kq.os.trans a2.os,hI.kq.tape.trans a2.tape,hI.kq.output.trans a2.output,Nat.le_trans a2.size hI.kq.size,fun b hb=>(hI.kq.block b (Nat.lt_of_lt_of_le hb a2.size) (by omega)).trans (a2.block b hb)⟩
    rcases Nat.lt_or_ge i n with hi | hi
    · have hiI:(i:Int) < (n:Int):=by omega
      obtain ⟨c,rfl,hcc,hrc⟩:=a1 (by omega)
      obtain ⟨un,uk,hc,hrn,hrk⟩:=(hrc i hi).below hBW
      obtain ⟨pn,cn,rfl,_⟩:=hrn
      obtain ⟨pk,ck,rfl,hk2⟩:=hrk
      obtain ⟨d0,d1,d2,d3,d4,d5,d6,d7,d8⟩:=hc
      obtain ⟨A,hA⟩:∃ A,A=wr.alloc (.cells #[.int .i64 (F i).a.k,.int .i64 (F i).a.f,.int .i64 (F i).a.t,.int .i64 (F i).a.l,.int .i64 (F i).a.o,.int .i64 (F i).a.m,.string (F i).a.x,.slice pn (F i).p cn,.slice pk (F i).q ck] 64):=⟨_,rfl⟩
      have bA:Below wr.heap.size wr A:=by rw [hA];exact bel1 _ _
      have hbx:Bx A wr.heap.size (F i).a (.slice pn (F i).p cn) (.slice pk (F i).q ck):=by rw [hA];exact Bx.new _ _ _ _ _
      have c8:=hbx.c8
      have hqI:((F i).q:Int)≤1048576:=by have:=a6 i hi;omega
      have hsz:=szl_in a5 i (by omega)
      have HSZ:Hid ((∀ k,0≤szl F i k∧szl F i k≤(k:Int)+1)∧∀ j,j < (F i).q→0≤(F i).K j∧(F i).K j < (i:Int)):=(⟨hsz,a5 i hi⟩:_∧_)
      have HKC:Hid (∀ j,j < (F i).q→∃ b:Addr,pk=some b∧(F i).q≤ck∧A.cell? (b.add j)=some (.int .i64 ((F i).K j))):=(fun j hj=>by
        obtain ⟨b,rfl,h1,h2⟩:=hk2 (by omega)
        exact ⟨b,rfl,h1,(bA.cell (lt_of_cell' (h2 j hj))).trans (h2 j hj)⟩:∀ j,_)
      have hgW:G < wr.heap.size:=Nat.lt_of_lt_of_le a4 hI.kq.size
      have HGC:Hid (∀ k,k < i→A.cell? ⟨G,k,none⟩=some (.int .i64 (szl F i k))):=(fun k hk=>by
        rw [bA.cell (p:=⟨G,k,none⟩) hgW,hI.don k hk,szl_stay F hk n (by omega)]:∀ k,_)
      have HM:Hid (szl F n i=(match bk (szl F i) (F i).K (F i).q (i:Int) with | some at'=>(i:Int) - at'+1 | none=>0)):=by
        show szl F n i = _
        rw [szl_stay F (Nat.lt_succ_self i) n hi]
        show (if i=i then _ else _) = _
        rw [if_pos rfl] <;> rfl
      have HST:Hid (A.cell? ⟨G,i,none⟩=some (.int .i64 0)∧A.frozen? ⟨G,i,none⟩=false∧MkR w1 G n (fun _=>.int .i64 0) (fun k=>.int .i64 (szl F n k)) (i+1) (A.setCell ⟨G,i,none⟩ (.int .i64 (szl F n i)))):=hI.step hi bA
      have HSK:Hid (szl F n i=0→MkR w1 G n (fun _=>.int .i64 0) (fun k=>.int .i64 (szl F n k)) (i+1) A):=(fun e=>hI.skip hi bA (by rw [e]):_→_)
      clear hI HI HA a1 a2 a3 a4 a5 a6 hBW hrc hbx hsz hin hk2 hgW bA
      go_wp2_with fail
      rw [← hA]
      clear hA d0 d1 d2 d3 d4 d5 d6 d7 d8
      go_loopw [6,7,8] (fun s6 s7 s8 wv=>∃ (jj:Nat) (at':Int),s6 = .int .i64 at'∧s7 = .bool true∧s8 = .int .i64 ((jj:Int) - 1)∧jj≤(F i).q∧0≤at'∧at'≤(i:Int)∧wv=A∧Hid (bk (szl F i) (F i).K (F i).q (i:Int)=bk (szl F i) (F i).K jj at')) (fun _ _ s8 _=>((intOf s8)+1).toNat)
      case atStart=>exact ⟨(F i).q,(i:Int),rfl,rfl,rfl,Nat.le_refl _,by omega,by omega,rfl,(rfl:bk (szl F i) (F i).K (F i).q (i:Int) = _)⟩
      case round =>
        obtain ⟨jj,at',rfl,rfl,rfl,hjj,hat0,hat1,rfl,HBK⟩:=hrel
        cases jj with
        | zero =>
          have HV:Hid (szl F n i=(i:Int) - at'+1):=by
            show szl F n i = _
            rw [show szl F n i = _ from HM,show bk (szl F i) (F i).K (F i).q (i:Int)=bk (szl F i) (F i).K 0 at' from HBK]
            rfl
          obtain ⟨g1,g2,g3⟩:=(show wr.cell? ⟨G,i,none⟩=some (.int .i64 0)∧wr.frozen? ⟨G,i,none⟩=false∧_ from HST)
          rw [show szl F n i = _ from HV] at g3
          have HG3:Hid (MkR w1 G n (fun _=>.int .i64 0) (fun k=>.int .i64 (szl F n k)) (i+1) (wr.setCell ⟨G,i,none⟩ (.int .i64 ((i:Int) - at'+1)))):=g3
          clear g3 HST HSK HBK HM HV HGC HKC HSZ hjj
          rw [show (((0:Nat):Int) - 1) = -1 from rfl]
          go_wp2_with fail
          go_roundw
          case rel=>exact ⟨i+1,by go_num,by omega,HG3⟩
          case measure=>simp [intOf];omega
        | succ k =>
          obtain ⟨b,rfl,hcb,q0⟩:=(show ∀ j,j < (F i).q→_ from HKC) k (by omega)
          obtain ⟨hsz,hkk⟩:=(show (∀ k,0≤szl F i k∧szl F i k≤(k:Int)+1)∧∀ j,j < (F i).q→0≤(F i).K j∧(F i).K j < (i:Int) from HSZ)
          have hk1:=hkk k (by omega)
          obtain ⟨m,hm⟩:∃ m:Nat,(F i).K k=(m:Int):=⟨((F i).K k).toNat,by omega⟩
          have hms:=hsz m
          have q1:=(show ∀ k,k < i→wr.cell? ⟨G,k,none⟩=some (.int .i64 (szl F i k)) from HGC) m (by omega)
          have hbk1:bk (szl F i) (F i).K (k+1) at'=if (m:Int)=at' - 1∧szl F i m ≠ 0 then bk (szl F i) (F i).K k (at' - szl F i m) else none:=by
            show (if (F i).K k=at' - 1∧szl F i ((F i).K k).toNat ≠ 0 then bk (szl F i) (F i).K k (at' - szl F i ((F i).K k).toNat) else none) = _
            rw [hm,Int.toNat_natCast]
          rw [hm] at q0
          have hmI:(m:Int) < (i:Int):=by omega
          have hkI:(k:Int) < ((F i).q:Int):=by omega
          rw [show (((k+1:Nat):Int) - 1)=(k:Int) from by omega]
          have HN:Hid (bk (szl F i) (F i).K (k+1) at'=none→MkR w1 G n (fun _=>.int .i64 0) (fun k=>.int .i64 (szl F n k)) (i+1) wr):=(fun e=>(show szl F n i=0→_ from HSK) (by
            rw [show szl F n i = _ from HM,show bk (szl F i) (F i).K (F i).q (i:Int)=bk (szl F i) (F i).K (k+1) at' from HBK,e]):_→_)
          have HL:Hid (k+1≤(F i).q):=hjj
          clear hkk hk1 hm hsz hjj HST HSK HM HGC HKC
          by_cases e1:(m:Int)=at' - 1
          · have e1':((m:Int) != at' - 1)=false:=by rw [e1];simp
            by_cases e2:szl F i m=0
            · have HD:Hid (MkR w1 G n (fun _=>.int .i64 0) (fun k=>.int .i64 (szl F n k)) (i+1) wr):=HN (by rw [hbk1,if_neg (fun g=>g.2 e2)])
              have e2':(szl F i m == 0)=true:=beq1 e2
              clear HN hbk1 HBK e1 e2
              generalize szl F i m=z at *
              go_wp2_with fail
              go_roundw
              case rel=>exact ⟨i+1,by go_num,by omega,HD⟩
              case measure=>simp [intOf];omega
            · have HD:Hid (bk (szl F i) (F i).K (F i).q (i:Int)=bk (szl F i) (F i).K k (at' - szl F i m)):=(show bk (szl F i) (F i).K (F i).q (i:Int)=bk (szl F i) (F i).K (k+1) at' from HBK).trans (by rw [hbk1,if_pos ⟨e1,e2⟩])
              have e2':(szl F i m == 0)=false:=bne e2
              have n0 : 0≤at' - szl F i m:=by omega
              have n1:at' - szl F i m≤(i:Int):=by omega
              clear HN hbk1 HBK e1 e2
              generalize hz:szl F i m=z at *
              clear hz
              go_wp2_with fail
              go_roundw
              case rel=>exact ⟨k,at' - z,rfl,rfl,by first | rfl | go_num,by have:=(show k+1≤(F i).q from HL);omega,n0,n1,by trivial,HD⟩
              case measure=>simp [intOf]
          · have HD:Hid (MkR w1 G n (fun _=>.int .i64 0) (fun k=>.int .i64 (szl F n k)) (i+1) wr):=HN (by rw [hbk1,if_neg (fun g=>e1 g.1)])
            have e1':((m:Int) != at' - 1)=true:=bne_iff_ne.2 e1
            clear HN hbk1 HBK e1
            generalize szl F i m=z at *
            go_wp2_with fail
            go_roundw
            case rel=>exact ⟨i+1,by go_num,by omega,HD⟩
            case measure=>simp [intOf];omega
    · obtain rfl:i=n:=by omega
      have HE:Hid (MkR w1 G i (fun _=>.int .i64 0) (fun k=>.int .i64 (szl F i k)) i wr∧Below w.heap.size w wr∧w.heap.size≤G∧G < wr.heap.size):=(⟨hI,hBW,by omega,Nat.lt_of_lt_of_le a4 hI.kq.size⟩:_∧_∧_∧_)
      clear HI hI HA a1 a2 a3 a4 a5 a6 hBW
      go_wp2_with fail
      go_ret
      obtain ⟨hE,hB,g1,g2⟩:=(show MkR w1 G i (fun _=>.int .i64 0) (fun k=>.int .i64 (szl F i k)) i wr∧Below w.heap.size w wr∧w.heap.size≤G∧G < wr.heap.size from HE)
      exact ⟨_,G,rfl,⟨⟨_,_,rfl,fun _=>⟨rfl,Nat.le_refl _⟩⟩,fun j hj=>hE.don j hj,fun _ j=>hE.fz j⟩,hB,g1,g2⟩
theorem dpr_in (F:Nat→Gv) (n:Nat):∀ r k,0≤dpr F n r k∧dpr F n r k≤(r:Int):=by
  intro r
  induction r with
  | zero=>intro k;show 0≤(0:Int)∧(0:Int)≤_;omega
  | succ r ih =>
    intro k
    have h1:=ih (n - 1 - r)
    exact upd_in (m:=((r+1:Nat):Int)) (fun k=>by have:=ih k;omega) (by omega) _ k
inductive Fl (nm fl:ByteArray→Prop) (F:Nat→Gv) (n:Nat):Int→Int→Prop
  | none0:n=0∨3000 < n∨(0 < n∧(F (n - 1)).a.k ≠ 1)→Fl nm fl F n 1 0
  | shape (i:Nat) : 0 < n→n≤3000→(F (n - 1)).a.k=1→i < n→(∀ j,j < i→ndk nm fl F j)→¬ ndk nm fl F i→Fl nm fl F n 2 (i:Int)
  | order (i:Nat) : 0 < n→n≤3000→(F (n - 1)).a.k=1→(∀ j,j < n→ndk nm fl F j)→i < n→(∀ j,j < i→szl F n j ≠ 0)→szl F n i=0→Fl nm fl F n 3 (i:Int)
  | whole : 0 < n→n≤3000→(F (n - 1)).a.k=1→(∀ j,j < n→ndk nm fl F j)→(∀ j,j < n→szl F n j ≠ 0)→szl F n (n - 1) ≠ (n:Int)→Fl nm fl F n 3 ((n:Int) - 1)
  | depth (i:Nat) : 0 < n→n≤3000→(F (n - 1)).a.k=1→(∀ j,j < n→ndk nm fl F j)→(∀ j,j < n→szl F n j ≠ 0)→szl F n (n - 1)=(n:Int)→i < n→(∀ j,j < i→dpr F n n j≤100)→100 < dpr F n n i→Fl nm fl F n 4 (i:Int)
  | sound : 0 < n→n≤3000→(F (n - 1)).a.k=1→(∀ j,j < n→ndk nm fl F j)→(∀ j,j < n→szl F n j ≠ 0)→szl F n (n - 1)=(n:Int)→(∀ j,j < n→dpr F n n j≤100)→Fl nm fl F n 0 0
end Go.Proofs.YtomcmnompajnlaaGreatDoor.Fo
