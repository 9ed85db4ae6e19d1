import Derived.Test.YtklaniaolddamaaGreatDoorBBan
set_option maxRecDepth 100000
set_option maxHeartbeats 8000000
namespace Go.Proofs.YtklaniaolddamaaGreatDoor.Fo
open Go.ChangeShapes Go.WideShapes Go.ChangeAt Go.RowKit
set_option linter.unusedVariables false
structure Sx (nm:ByteArray→Prop) (w:World) (v:Value) (n:Nat) (F:Nat→Gv) (vn vk:Value) (p:Nat) (A:Nat→ByteArray) (q:Nat) (K:Nat→Int):Prop where
 hn:NmS nm
 rf:RowF w v n F
 rn:RowV w vn p (fun i=>.string (A i))
 rk:RowV w vk q (fun i=>.int .i64 (K i))
 hp:p≤1048576
 hq:q≤1048576
 hnn:n≤1048576
 hk:∀ j,j < q→0≤K j∧K j < (n:Int)
theorem Sx.sy {nm : ByteArray → Prop} {w : World} {v : Value} {n : Nat} {F : Nat → Gv} {vn vk : Value} {p : Nat} {A : Nat → ByteArray} {q : Nat} {K : Nat → Int} (s : Sx nm w v n F vn vk p A q K) (a : Fv) (t1 t2 : TypeId) :
  Sy nm ((w.alloc (.cells #[v] t1)).alloc (.cells #[.int .i64 a.k,.int .i64 a.f,.int .i64 a.t,.int .i64 a.l,.int .i64 a.o,.int .i64 a.m,.string a.x,vn,vk] t2)) w.heap.size v n F a vn vk p A q K:=by
 have hb:=bel2 w (.cells #[v] t1) (.cells #[.int .i64 a.k,.int .i64 a.f,.int .i64 a.t,.int .i64 a.l,.int .i64 a.o,.int .i64 a.m,.string a.x,vn,vk] t2)
 refine ⟨s.hn,?_,?_,s.rf.below hb,s.rn.below hb,s.rk.below hb,s.hp,s.hq,s.hnn,s.hk⟩
 ·rw [World.cell?_alloc_past _ _ _ (by simp),World.cell?_alloc_at _ _ _ _ rfl];rfl
 ·have:=Bx.new (w.alloc (.cells #[v] t1)) a vn vk t2
  simpa using this
theorem st_2 {nm : ByteArray → Prop} {w : World} {v : Value} {n : Nat} {F : Nat → Gv} {vn vk : Value} {p : Nat} {A : Nat → ByteArray} {q : Nat} {K : Nat → Int} (s : Sx nm w v n F vn vk p A q K) (a : Fv) (hk : a.k = 2) :
  Calls Tryz.prog 51 #[.agg #[v],fmv a vn vk] w fun e w'=>e = .returned (.bool (dc (br a p false false false true∧nd nm p A 1 200∧ex F K 0 q)))∧Below w.heap.size w w':=by
 have hs:=s.sy a 31 50
 obtain ⟨W2,hW2⟩:∃ W2,W2=(w.alloc (.cells #[v] 31)).alloc (.cells #[.int .i64 a.k,.int .i64 a.f,.int .i64 a.t,.int .i64 a.l,.int .i64 a.o,.int .i64 a.m,.string a.x,vn,vk] 50):=⟨_,rfl⟩
 rw [← hW2] at hs
 have HBL:Hid (∀ W,Below W2.heap.size W2 W→Below w.heap.size w W):=(fun W hb=>by rw [hW2] at hb;exact (bel2 w _ _).trans (hb.mono (bel2 w _ _).size):∀ W,_)
 have HSY:Hid (Sy nm W2 w.heap.size v n F a vn vk p A q K):=hs
 have hqI:(q:Int)≤1048576:=by have:=s.hq;omega
 obtain ⟨pn,cn,rfl,_⟩:=s.rn
 obtain ⟨pk,ck,rfl,_⟩:=s.rk
 obtain ⟨pf,cf,rfl,_⟩:=s.rf
 have HSQ:Hid (q≤1048576):=s.hq
 obtain ⟨R,hR⟩:∃ R,R=dc (br a p false false false true∧nd nm p A 1 200∧ex F K 0 q):=⟨_,rfl⟩
 have HR:Hid (R=dc (br a p false false false true∧nd nm p A 1 200∧ex F K 0 q)):=hR
 rw [← hR]
 clear hs s hR
 obtain ⟨k,f,t,l,o,m,x⟩:=a
 dsimp only at hk
 subst hk
 go_enter Tryz.func51,Tryz.ntmps51
 unfold fmv
 dsimp only at hW2
 go_wp2_with fail
 rw [← hW2]
 clear hW2
 have B0:Below W2.heap.size W2 W2:=Below.refl _ _
 obtain ⟨c0,c1,c2,c3,c4,c5,c6,c7,c8⟩:=(show Sy nm W2 w.heap.size _ n F _ _ _ p A q K from HSY).bx
 have ct:=(show Sy nm W2 w.heap.size _ n F _ _ _ p A q K from HSY).ct
 dsimp only at c0 c1 c2 c3 c4 c5 c6
 go_wp2_with fail
 refine ((show Sy nm W2 w.heap.size _ n F _ _ _ p A _ K from HSY).bare false false false true _ B0).mono ?_
 rintro e w1 ⟨rfl,B1⟩
 clear c0 c1 c2 c3 c4 c5 c6 c7 c8 ct
 obtain ⟨c0,c1,c2,c3,c4,c5,c6,c7,c8⟩:=(show Sy nm W2 w.heap.size _ n F _ _ _ p A _ K from HSY).bx.below B1
 have ct:=(B1.cell (p:=⟨w.heap.size,0,none⟩) (lt_of_cell (show Sy nm W2 w.heap.size _ n F _ _ _ p A _ K from HSY).ct)).trans (show Sy nm W2 w.heap.size _ n F _ _ _ p A _ K from HSY).ct
 dsimp only at c0 c1 c2 c3 c4 c5 c6
 by_cases h0:br ⟨2,f,t,l,o,m,x⟩ p false false false true
 ·rw [dc_t h0]
  have HH0:Hid (br ⟨2,f,t,l,o,m,x⟩ p false false false true):=h0
  clear h0
  go_wp2_with fail
  refine ((show Sy nm W2 w.heap.size _ n F _ _ _ p A _ K from HSY).named 1 200 (by omega) (by omega) _ B1).mono ?_
  rintro e w2 ⟨rfl,B2⟩
  clear c0 c1 c2 c3 c4 c5 c6 c7 c8 ct
  obtain ⟨c0,c1,c2,c3,c4,c5,c6,c7,c8⟩:=(show Sy nm W2 w.heap.size _ n F _ _ _ p A _ K from HSY).bx.below B2
  have ct:=(B2.cell (p:=⟨w.heap.size,0,none⟩) (lt_of_cell (show Sy nm W2 w.heap.size _ n F _ _ _ p A _ K from HSY).ct)).trans (show Sy nm W2 w.heap.size _ n F _ _ _ p A _ K from HSY).ct
  dsimp only at c0 c1 c2 c3 c4 c5 c6
  by_cases h1:nd nm p A 1 200
  ·rw [dc_t h1]
   have HH1:Hid (nd nm p A 1 200):=h1
   clear h1
   go_wp2_with fail
   refine ((show Sy nm W2 w.heap.size _ n F _ _ _ p A _ K from HSY).exprs _ _ 0 q rfl (by first | rfl | omega) (by omega) (by omega) _ B2).mono ?_
   rintro e w3 ⟨rfl,B3⟩
   clear c0 c1 c2 c3 c4 c5 c6 c7 c8 ct
   obtain ⟨c0,c1,c2,c3,c4,c5,c6,c7,c8⟩:=(show Sy nm W2 w.heap.size _ n F _ _ _ p A _ K from HSY).bx.below B3
   have ct:=(B3.cell (p:=⟨w.heap.size,0,none⟩) (lt_of_cell (show Sy nm W2 w.heap.size _ n F _ _ _ p A _ K from HSY).ct)).trans (show Sy nm W2 w.heap.size _ n F _ _ _ p A _ K from HSY).ct
   dsimp only at c0 c1 c2 c3 c4 c5 c6
   by_cases h2:ex F K 0 q
   ·rw [dc_t h2]
    have HH2:Hid (ex F K 0 q):=h2
    clear h2
    go_wp2_with fail
    go_ret
    exact ⟨by rw [show R = _ from HR,dc_t ⟨HH0,HH1,HH2⟩];rfl,(show ∀ W,Below W2.heap.size W2 W→Below w.heap.size w W from HBL) _ B3⟩
   ·rw [dc_f h2]
    have HN9:Hid (¬ (ex F K 0 q)):=h2
    clear h2
    go_wp2_with fail
    go_ret
    exact ⟨by rw [show R = _ from HR,dc_f (fun g=>HN9 g.2.2)];rfl,(show ∀ W,Below W2.heap.size W2 W→Below w.heap.size w W from HBL) _ B3⟩
  ·rw [dc_f h1]
   have HN9:Hid (¬ (nd nm p A 1 200)):=h1
   clear h1
   go_wp2_with fail
   go_ret
   exact ⟨by rw [show R = _ from HR,dc_f (fun g=>HN9 g.2.1)];rfl,(show ∀ W,Below W2.heap.size W2 W→Below w.heap.size w W from HBL) _ B2⟩
 ·rw [dc_f h0]
  have HN9:Hid (¬ (br ⟨2,f,t,l,o,m,x⟩ p false false false true)):=h0
  clear h0
  go_wp2_with fail
  go_ret
  exact ⟨by rw [show R = _ from HR,dc_f (fun g=>HN9 g.1)];rfl,(show ∀ W,Below W2.heap.size W2 W→Below w.heap.size w W from HBL) _ B1⟩
end Go.Proofs.YtklaniaolddamaaGreatDoor.Fo
