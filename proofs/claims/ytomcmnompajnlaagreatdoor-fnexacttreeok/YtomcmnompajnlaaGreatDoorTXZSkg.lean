import Derived.Test.YtomcmnompajnlaaGreatDoorTXZSkc
set_option maxRecDepth 100000
set_option maxHeartbeats 8000000
namespace Go.Proofs.YtomcmnompajnlaaGreatDoor.Fo.Po
open Go.ChangeShapes Go.WideShapes Go.ChangeAt Go.RowKit
set_option linter.unusedVariables false
theorem st_1 {nm : ByteArray → Prop} {w : World} {v : Value} {n : Nat} {F : Nat → Gv} {vn vk : Value} {p : Nat} {A : Nat → ByteArray} {q : Nat} {K : Nat → Int} (s : Sx nm w v n F vn vk p A q K) (a : Fv) (hga : a.g < 18446744073709551616) (hk : a.k = 1) :
    Calls Tryz.prog 86 #[.agg #[v],fmv a vn vk] w fun e w'=>e = .returned (.bool (dc ((∀ j,j < q→1≤kdk F K j∧kdk F K j≤16)∧br a p false false false false)))∧Below w.heap.size w w':=by
  have hs:=s.sy a hga 56 102
  obtain ⟨W2,hW2⟩:∃ W2,W2=(w.alloc (.cells #[v] 56)).alloc (.cells #[.int .i64 a.k,.int .i64 a.f,.int .i64 a.t,.int .i64 a.l,.int .i64 a.o,.int .i64 a.m,.float .f64 a.g,.string a.x,vn,vk] 102):=⟨_,rfl⟩
  rw [← hW2] at hs
  have HBL:Hid (∀ W,Below W2.heap.size W2 W→Below w.heap.size w W):=(fun W hb=>by rw [hW2] at hb;exact (bel2 w _ _).trans (hb.mono (bel2 w _ _).size):∀ W,_)
  have HSY:Hid (Sy nm W2 w.heap.size v n F a vn vk p A q K):=hs
  have hqI:(q:Int)≤1048576:=by have:=s.hq;omega
  obtain ⟨pn,cn,rfl,_⟩:=s.rn
  obtain ⟨pk,ck,rfl,_⟩:=s.rk
  obtain ⟨pf,cf,rfl,_⟩:=s.rf
  obtain ⟨R,hR⟩:∃ R,R=dc ((∀ j,j < q→1≤kdk F K j∧kdk F K j≤16)∧br a p false false false false):=⟨_,rfl⟩
  have HR:Hid (R=dc ((∀ j,j < q→1≤kdk F K j∧kdk F K j≤16)∧br a p false false false false)):=hR
  rw [← hR]
  clear hs s hR hga
  obtain ⟨k,f,t,l,o,m,g,x⟩:=a
  dsimp only at hk
  subst hk
  go_enter Tryz.func86,Tryz.ntmps86
  unfold fmv
  dsimp only at hW2
  go_wp2_with fail
  rw [← hW2]
  clear hW2
  go_loopw [18] (fun sr wr=>∃ i:Nat,sr = .int .i64 (i:Int)∧i≤q∧Hid (Below W2.heap.size W2 wr)∧Hid (∀ j,j < i→1≤kdk F K j∧kdk F K j≤16)) (fun sr _=>q - (intOf sr).toNat)
  case atStart=>exact ⟨0,rfl,Nat.zero_le _,Below.refl _ _,(fun j hj=>by omega:∀ j,j < 0→_)⟩
  case round =>
    obtain ⟨i,rfl,hin,HB,HI⟩:=hrel
    have B:=(show Below W2.heap.size W2 wr from HB)
    have hI:=(show ∀ j,j < i→1≤kdk F K j∧kdk F K j≤16 from HI)
    obtain ⟨c0,c1,c2,c3,c4,c5,c6,c7,c8,c9⟩:=(show Sy nm W2 w.heap.size _ n F _ _ _ p A _ K from HSY).bx.below B
    have ct:=(B.cell (p:=⟨w.heap.size,0,none⟩) (lt_of_cell (show Sy nm W2 w.heap.size _ n F _ _ _ p A _ K from HSY).ct)).trans (show Sy nm W2 w.heap.size _ n F _ _ _ p A _ K from HSY).ct
    dsimp only at c0 c1 c2 c3 c4 c5 c6 c7
    rcases Nat.lt_or_ge i q with hi | hi
    · have hiI:(i:Int) < (q:Int):=by omega
      have HK:Hid (∀ W,Below W2.heap.size W2 W→Calls Tryz.prog 116 #[.agg #[.slice pf n cf],fmv ⟨1,f,t,l,o,m,g,x⟩ (.slice pn p cn) (.slice pk q ck),.int .i64 (i:Int)] W fun e w'=>e = .returned (.int .i64 (kdk F K i))∧Below W2.heap.size W2 w'):=(fun W hb=>(show Sy nm W2 w.heap.size _ n F _ _ _ p A _ K from HSY).kid (i:Int) i rfl hi W hb:∀ W,_)
      by_cases hg : 1≤kdk F K i∧kdk F K i≤16
      · have HX : Hid (∀ j, j < i + 1 → 1 ≤ kdk F K j ∧ kdk F K j ≤ 16) := (fun j hj => by
          by_cases e:j=i
          · rw [e];exact hg
          · exact hI j (by omega):∀ j,_)
        have HG:Hid (1≤kdk F K i∧kdk F K i≤16):=hg
        clear hI HI hin hg B
        go_wp2_with fail
        refine ((show ∀ W,Below W2.heap.size W2 W→_ from HK) _ HB).mono ?_
        rintro e w1 ⟨rfl,B1⟩
        have HB1:Hid (Below W2.heap.size W2 w1):=B1
        have hg:=(show 1≤kdk F K i∧kdk F K i≤16 from HG)
        have hst:=fun W=>sp_stat (kdk F K i) W
        rw [dc_t hg] at hst
        have HST:Hid (∀ W,Calls Tryz.prog 85 #[.int .i64 (kdk F K i)] W fun e w'=>e = .returned (.bool true)∧w'=W):=hst
        clear hst hg HG HK c0 c1 c2 c3 c4 c5 c6 c7 c8 c9 ct B1
        generalize kdk F K i=z at *
        go_wp2_with fail
        refine ((show ∀ W,_ from HST) _).mono ?_
        rintro e w2 ⟨rfl,rfl⟩
        clear HST
        go_wp2_with fail
        go_roundw
        case rel=>exact ⟨i+1,by go_num,by omega,HB1,HX⟩
        case measure=>simp [intOf];omega
      · have HN9:Hid (Nt (∀ j,j < q→1≤kdk F K j∧kdk F K j≤16)):=(fun g=>hg (g i hi):Nt _)
        have HG:Hid (Nt (1≤kdk F K i∧kdk F K i≤16)):=hg
        clear hI HI hin hg B
        go_wp2_with fail
        refine ((show ∀ W,Below W2.heap.size W2 W→_ from HK) _ HB).mono ?_
        rintro e w1 ⟨rfl,B1⟩
        have HB1:Hid (Below W2.heap.size W2 w1):=B1
        have hg:¬ (1≤kdk F K i∧kdk F K i≤16):=HG
        have hst:=fun W=>sp_stat (kdk F K i) W
        rw [dc_f hg] at hst
        have HST:Hid (∀ W,Calls Tryz.prog 85 #[.int .i64 (kdk F K i)] W fun e w'=>e = .returned (.bool false)∧w'=W):=hst
        clear hst hg HG HK c0 c1 c2 c3 c4 c5 c6 c7 c8 c9 ct B1
        generalize kdk F K i=z at *
        go_wp2_with fail
        refine ((show ∀ W,_ from HST) _).mono ?_
        rintro e w2 ⟨rfl,rfl⟩
        clear HST
        go_wp2_with fail
        go_ret
        exact ⟨by rw [show R = _ from HR,dc_f (fun g=>HN9 g.1)];rfl,(show ∀ W,Below W2.heap.size W2 W→Below w.heap.size w W from HBL) _ HB1⟩
    · obtain rfl:i=q:=by omega
      have HI2:Hid (∀ j,j < i→1≤kdk F K j∧kdk F K j≤16):=hI
      clear hI HI B
      go_wp2_with fail
      refine ((show Sy nm W2 w.heap.size _ n F _ _ _ p A _ K from HSY).bare false false false false _ HB).mono ?_
      rintro e w1 ⟨rfl,B1⟩
      have HB1:Hid (Below W2.heap.size W2 w1):=B1
      clear B1 c0 c1 c2 c3 c4 c5 c6 c7 c8 c9 ct
      by_cases hb:br ⟨1,f,t,l,o,m,g,x⟩ p false false false false
      · rw [dc_t hb]
        have HBB:Hid (br ⟨1,f,t,l,o,m,g,x⟩ p false false false false):=hb
        clear hb
        go_wp2_with fail
        go_ret
        exact ⟨by rw [show R = _ from HR,dc_t ⟨HI2,HBB⟩];rfl,(show ∀ W,Below W2.heap.size W2 W→Below w.heap.size w W from HBL) _ HB1⟩
      · rw [dc_f hb]
        have HBB:Hid (Nt (br ⟨1,f,t,l,o,m,g,x⟩ p false false false false)):=hb
        clear hb
        go_wp2_with fail
        go_ret
        exact ⟨by rw [show R = _ from HR,dc_f (fun g=>HBB g.2)];rfl,(show ∀ W,Below W2.heap.size W2 W→Below w.heap.size w W from HBL) _ HB1⟩
theorem xp_35 {nm : ByteArray → Prop} {w : World} {v : Value} {n : Nat} {F : Nat → Gv} {vn vk : Value} {p : Nat} {A : Nat → ByteArray} {q : Nat} {K : Nat → Int} (s : Sx nm w v n F vn vk p A q K) (a : Fv) (hga : a.g < 18446744073709551616) (hk : a.k = 35) :
    Calls Tryz.prog 87 #[.agg #[v],fmv a vn vk] w fun e w'=>e = .returned (.bool (dc ((∀ j,j < q→40≤kdk F K j∧kdk F K j≤42)∧br a p false false false false)))∧Below w.heap.size w w':=by
  have hs:=s.sy a hga 56 102
  obtain ⟨W2,hW2⟩:∃ W2,W2=(w.alloc (.cells #[v] 56)).alloc (.cells #[.int .i64 a.k,.int .i64 a.f,.int .i64 a.t,.int .i64 a.l,.int .i64 a.o,.int .i64 a.m,.float .f64 a.g,.string a.x,vn,vk] 102):=⟨_,rfl⟩
  rw [← hW2] at hs
  have HBL:Hid (∀ W,Below W2.heap.size W2 W→Below w.heap.size w W):=(fun W hb=>by rw [hW2] at hb;exact (bel2 w _ _).trans (hb.mono (bel2 w _ _).size):∀ W,_)
  have HSY:Hid (Sy nm W2 w.heap.size v n F a vn vk p A q K):=hs
  have hqI:(q:Int)≤1048576:=by have:=s.hq;omega
  obtain ⟨pn,cn,rfl,_⟩:=s.rn
  obtain ⟨pk,ck,rfl,_⟩:=s.rk
  obtain ⟨pf,cf,rfl,_⟩:=s.rf
  obtain ⟨R,hR⟩:∃ R,R=dc ((∀ j,j < q→40≤kdk F K j∧kdk F K j≤42)∧br a p false false false false):=⟨_,rfl⟩
  have HR:Hid (R=dc ((∀ j,j < q→40≤kdk F K j∧kdk F K j≤42)∧br a p false false false false)):=hR
  rw [← hR]
  clear hs s hR hga
  obtain ⟨k,f,t,l,o,m,g,x⟩:=a
  dsimp only at hk
  subst hk
  go_enter Tryz.func87,Tryz.ntmps87
  unfold fmv
  dsimp only at hW2
  go_wp2_with fail
  rw [← hW2]
  clear hW2
  go_loopw [205] (fun sr wr=>∃ i:Nat,sr = .int .i64 (i:Int)∧i≤q∧Hid (Below W2.heap.size W2 wr)∧Hid (∀ j,j < i→40≤kdk F K j∧kdk F K j≤42)) (fun sr _=>q - (intOf sr).toNat)
  case atStart=>exact ⟨0,rfl,Nat.zero_le _,Below.refl _ _,(fun j hj=>by omega:∀ j,j < 0→_)⟩
  case round =>
    obtain ⟨i,rfl,hin,HB,HI⟩:=hrel
    have B:=(show Below W2.heap.size W2 wr from HB)
    have hI:=(show ∀ j,j < i→40≤kdk F K j∧kdk F K j≤42 from HI)
    obtain ⟨c0,c1,c2,c3,c4,c5,c6,c7,c8,c9⟩:=(show Sy nm W2 w.heap.size _ n F _ _ _ p A _ K from HSY).bx.below B
    have ct:=(B.cell (p:=⟨w.heap.size,0,none⟩) (lt_of_cell (show Sy nm W2 w.heap.size _ n F _ _ _ p A _ K from HSY).ct)).trans (show Sy nm W2 w.heap.size _ n F _ _ _ p A _ K from HSY).ct
    dsimp only at c0 c1 c2 c3 c4 c5 c6 c7
    rcases Nat.lt_or_ge i q with hi | hi
    · have hiI:(i:Int) < (q:Int):=by omega
      have HK:Hid (∀ W,Below W2.heap.size W2 W→Calls Tryz.prog 116 #[.agg #[.slice pf n cf],fmv ⟨35,f,t,l,o,m,g,x⟩ (.slice pn p cn) (.slice pk q ck),.int .i64 (i:Int)] W fun e w'=>e = .returned (.int .i64 (kdk F K i))∧Below W2.heap.size W2 w'):=(fun W hb=>(show Sy nm W2 w.heap.size _ n F _ _ _ p A _ K from HSY).kid (i:Int) i rfl hi W hb:∀ W,_)
      by_cases hg : 40≤kdk F K i∧kdk F K i≤42
      · have HX : Hid (∀ j, j < i + 1 → 40 ≤ kdk F K j ∧ kdk F K j ≤ 42) := (fun j hj => by
          by_cases e:j=i
          · rw [e];exact hg
          · exact hI j (by omega):∀ j,_)
        have HG:Hid (40≤kdk F K i∧kdk F K i≤42):=hg
        clear hI HI hin hg B
        go_wp2_with fail
        refine ((show ∀ W,Below W2.heap.size W2 W→_ from HK) _ HB).mono ?_
        rintro e w1 ⟨rfl,B1⟩
        have HB1:Hid (Below W2.heap.size W2 w1):=B1
        have hg:=(show 40≤kdk F K i∧kdk F K i≤42 from HG)
        have g1:¬ kdk F K i < 40:=by omega
        have g2:¬ 42 < kdk F K i:=by omega
        clear hg HG HK c0 c1 c2 c3 c4 c5 c6 c7 c8 c9 ct B1
        generalize kdk F K i=z at *
        go_wp2_with fail
        go_roundw
        case rel=>exact ⟨i+1,by go_num,by omega,HB1,HX⟩
        case measure=>simp [intOf];omega
      · have HN9:Hid (Nt (∀ j,j < q→40≤kdk F K j∧kdk F K j≤42)):=(fun g=>hg (g i hi):Nt _)
        have HG:Hid (Nt (40≤kdk F K i∧kdk F K i≤42)):=hg
        clear hI HI hin hg B
        go_wp2_with fail
        refine ((show ∀ W,Below W2.heap.size W2 W→_ from HK) _ HB).mono ?_
        rintro e w1 ⟨rfl,B1⟩
        have HB1:Hid (Below W2.heap.size W2 w1):=B1
        have hg:¬ (40≤kdk F K i∧kdk F K i≤42):=HG
        clear HG HK c0 c1 c2 c3 c4 c5 c6 c7 c8 c9 ct B1
        generalize kdk F K i=z at *
        have g0:z < 40∨42 < z:=by omega
        clear hg
        rcases g0 with g0 | g0
        · go_wp2_with fail
          go_ret
          exact ⟨by rw [show R = _ from HR,dc_f (fun g=>HN9 g.1)];rfl,(show ∀ W,Below W2.heap.size W2 W→Below w.heap.size w W from HBL) _ HB1⟩
        · have g1:¬ z < 40:=by omega
          go_wp2_with fail
          go_ret
          exact ⟨by rw [show R = _ from HR,dc_f (fun g=>HN9 g.1)];rfl,(show ∀ W,Below W2.heap.size W2 W→Below w.heap.size w W from HBL) _ HB1⟩
    · obtain rfl:i=q:=by omega
      have HI2:Hid (∀ j,j < i→40≤kdk F K j∧kdk F K j≤42):=hI
      clear hI HI B
      go_wp2_with fail
      refine ((show Sy nm W2 w.heap.size _ n F _ _ _ p A _ K from HSY).bare false false false false _ HB).mono ?_
      rintro e w1 ⟨rfl,B1⟩
      have HB1:Hid (Below W2.heap.size W2 w1):=B1
      clear B1 c0 c1 c2 c3 c4 c5 c6 c7 c8 c9 ct
      by_cases hb:br ⟨35,f,t,l,o,m,g,x⟩ p false false false false
      · rw [dc_t hb]
        have HBB:Hid (br ⟨35,f,t,l,o,m,g,x⟩ p false false false false):=hb
        clear hb
        go_wp2_with fail
        go_ret
        exact ⟨by rw [show R = _ from HR,dc_t ⟨HI2,HBB⟩];rfl,(show ∀ W,Below W2.heap.size W2 W→Below w.heap.size w W from HBL) _ HB1⟩
      · rw [dc_f hb]
        have HBB:Hid (Nt (br ⟨35,f,t,l,o,m,g,x⟩ p false false false false)):=hb
        clear hb
        go_wp2_with fail
        go_ret
        exact ⟨by rw [show R = _ from HR,dc_f (fun g=>HBB g.2)];rfl,(show ∀ W,Below W2.heap.size W2 W→Below w.heap.size w W from HBL) _ HB1⟩
theorem st_7 {nm : ByteArray → Prop} {w : World} {v : Value} {n : Nat} {F : Nat → Gv} {vn vk : Value} {p : Nat} {A : Nat → ByteArray} {q : Nat} {K : Nat → Int} (s : Sx nm w v n F vn vk p A q K) (a : Fv) (hga : a.g < 18446744073709551616) (hk : a.k = 7) :
  Calls Tryz.prog 86 #[.agg #[v],fmv a vn vk] w fun e w'=>e = .returned (.bool (dc (br a p false false false false∧(q=2∨q=3)∧ex F K 0 1∧kdk F K 1=1∧(q=2∨kdk F K 2=1∨kdk F K 2=7))))∧Below w.heap.size w w':=by
 have hs:=s.sy a hga 56 102
 obtain ⟨W2,hW2⟩:∃ W2,W2=(w.alloc (.cells #[v] 56)).alloc (.cells #[.int .i64 a.k,.int .i64 a.f,.int .i64 a.t,.int .i64 a.l,.int .i64 a.o,.int .i64 a.m,.float .f64 a.g,.string a.x,vn,vk] 102):=⟨_,rfl⟩
 rw [← hW2] at hs
 have HBL:Hid (∀ W,Below W2.heap.size W2 W→Below w.heap.size w W):=(fun W hb=>by rw [hW2] at hb;exact (bel2 w _ _).trans (hb.mono (bel2 w _ _).size):∀ W,_)
 have HSY:Hid (Sy nm W2 w.heap.size v n F a vn vk p A q K):=hs
 have hqI:(q:Int)≤1048576:=by have:=s.hq;omega
 obtain ⟨pn,cn,rfl,_⟩:=s.rn
 obtain ⟨pk,ck,rfl,_⟩:=s.rk
 obtain ⟨pf,cf,rfl,_⟩:=s.rf
 obtain ⟨R,hR⟩:∃ R,R=dc (br a p false false false false∧(q=2∨q=3)∧ex F K 0 1∧kdk F K 1=1∧(q=2∨kdk F K 2=1∨kdk F K 2=7)):=⟨_,rfl⟩
 have HR:Hid (R=dc (br a p false false false false∧(q=2∨q=3)∧ex F K 0 1∧kdk F K 1=1∧(q=2∨kdk F K 2=1∨kdk F K 2=7))):=hR
 rw [← hR]
 clear hs s hR hga
 obtain ⟨k,f,t,l,o,m,g,x⟩:=a
 dsimp only at hk
 subst hk
 go_enter Tryz.func86,Tryz.ntmps86
 unfold fmv
 dsimp only at hW2
 go_wp2_with fail
 rw [← hW2]
 clear hW2
 have B0:Below W2.heap.size W2 W2:=Below.refl _ _
 obtain ⟨c0,c1,c2,c3,c4,c5,c6,c7,c8,c9⟩:=(show Sy nm W2 w.heap.size _ n F _ _ _ p A _ K from HSY).bx.below B0
 have ct:=(B0.cell (p:=⟨w.heap.size,0,none⟩) (lt_of_cell (show Sy nm W2 w.heap.size _ n F _ _ _ p A _ K from HSY).ct)).trans (show Sy nm W2 w.heap.size _ n F _ _ _ p A _ K from HSY).ct
 dsimp only at c0 c1 c2 c3 c4 c5 c6 c7
 go_wp2_with fail
 refine ((show Sy nm W2 w.heap.size _ n F _ _ _ p A _ K from HSY).bare false false false false _ B0).mono ?_
 rintro e w1 ⟨rfl,B1⟩
 clear c0 c1 c2 c3 c4 c5 c6 c7 c8 c9 ct
 obtain ⟨c0,c1,c2,c3,c4,c5,c6,c7,c8,c9⟩:=(show Sy nm W2 w.heap.size _ n F _ _ _ p A _ K from HSY).bx.below B1
 have ct:=(B1.cell (p:=⟨w.heap.size,0,none⟩) (lt_of_cell (show Sy nm W2 w.heap.size _ n F _ _ _ p A _ K from HSY).ct)).trans (show Sy nm W2 w.heap.size _ n F _ _ _ p A _ K from HSY).ct
 dsimp only at c0 c1 c2 c3 c4 c5 c6 c7
 by_cases hb:br ⟨7,f,t,l,o,m,g,x⟩ p false false false false
 ·rw [dc_t hb]
  have HB0:Hid (br ⟨7,f,t,l,o,m,g,x⟩ p false false false false):=hb
  clear hb
  by_cases h2:q=2
  ·subst h2
   go_wp2_with fail
   refine ((show Sy nm W2 w.heap.size _ n F _ _ _ p A _ K from HSY).exprs 0 1 0 1 rfl rfl (by omega) (by omega) _ B1).mono ?_
   rintro e w2 ⟨rfl,B2⟩
   clear c0 c1 c2 c3 c4 c5 c6 c7 c8 c9 ct
   obtain ⟨c0,c1,c2,c3,c4,c5,c6,c7,c8,c9⟩:=(show Sy nm W2 w.heap.size _ n F _ _ _ p A _ K from HSY).bx.below B2
   have ct:=(B2.cell (p:=⟨w.heap.size,0,none⟩) (lt_of_cell (show Sy nm W2 w.heap.size _ n F _ _ _ p A _ K from HSY).ct)).trans (show Sy nm W2 w.heap.size _ n F _ _ _ p A _ K from HSY).ct
   dsimp only at c0 c1 c2 c3 c4 c5 c6 c7
   by_cases he:ex F K 0 1
   ·rw [dc_t he]
    have HE0:Hid (ex F K 0 1):=he
    clear he
    go_wp2_with fail
    refine ((show Sy nm W2 w.heap.size _ n F _ _ _ p A _ K from HSY).kid 1 1 rfl (by omega) _ B2).mono ?_
    rintro e w3 ⟨rfl,B3⟩
    clear c0 c1 c2 c3 c4 c5 c6 c7 c8 c9 ct
    obtain ⟨c0,c1,c2,c3,c4,c5,c6,c7,c8,c9⟩:=(show Sy nm W2 w.heap.size _ n F _ _ _ p A _ K from HSY).bx.below B3
    have ct:=(B3.cell (p:=⟨w.heap.size,0,none⟩) (lt_of_cell (show Sy nm W2 w.heap.size _ n F _ _ _ p A _ K from HSY).ct)).trans (show Sy nm W2 w.heap.size _ n F _ _ _ p A _ K from HSY).ct
    dsimp only at c0 c1 c2 c3 c4 c5 c6 c7
    by_cases hk1:kdk F K 1=1
    ·have ek1:=beq1 hk1
     have HK1:Hid (kdk F K 1=1):=hk1
     have nk1:(kdk F K 1 != 1)=false:=by rw [hk1];rfl
     clear hk1
     go_wp2_with fail
     go_ret
     exact ⟨by rw [show R = _ from HR,dc_t ⟨HB0,(by first | exact Or.inl rfl | exact Or.inr rfl | exact Or.inl trivial | exact Or.inr trivial | trivial),HE0,HK1,(by first | exact Or.inl rfl | exact Or.inl trivial | trivial)⟩];first | rfl | (simp [*];done),(show ∀ W,Below W2.heap.size W2 W→Below w.heap.size w W from HBL) _ B3⟩
    ·have ek1:=bne hk1
     have HK1:Hid (Nt (kdk F K 1=1)):=hk1
     have nk1:(kdk F K 1 != 1)=true:=bne_iff_ne.2 hk1
     clear hk1
     go_wp2_with fail
     go_ret
     exact ⟨by rw [show R = _ from HR,dc_f (fun g=>HK1 g.2.2.2.1)];first | rfl | (simp [*];done),(show ∀ W,Below W2.heap.size W2 W→Below w.heap.size w W from HBL) _ B3⟩
   ·rw [dc_f he]
    have HE0:Hid (Nt (ex F K 0 1)):=he
    clear he
    go_wp2_with fail
    go_ret
    exact ⟨by rw [show R = _ from HR,dc_f (fun g=>HE0 g.2.2.1)];first | rfl | (simp [*];done),(show ∀ W,Below W2.heap.size W2 W→Below w.heap.size w W from HBL) _ B2⟩
  ·by_cases h3:q=3
   ·subst h3
    go_wp2_with fail
    refine ((show Sy nm W2 w.heap.size _ n F _ _ _ p A _ K from HSY).exprs 0 1 0 1 rfl rfl (by omega) (by omega) _ B1).mono ?_
    rintro e w2 ⟨rfl,B2⟩
    clear c0 c1 c2 c3 c4 c5 c6 c7 c8 c9 ct
    obtain ⟨c0,c1,c2,c3,c4,c5,c6,c7,c8,c9⟩:=(show Sy nm W2 w.heap.size _ n F _ _ _ p A _ K from HSY).bx.below B2
    have ct:=(B2.cell (p:=⟨w.heap.size,0,none⟩) (lt_of_cell (show Sy nm W2 w.heap.size _ n F _ _ _ p A _ K from HSY).ct)).trans (show Sy nm W2 w.heap.size _ n F _ _ _ p A _ K from HSY).ct
    dsimp only at c0 c1 c2 c3 c4 c5 c6 c7
    by_cases he:ex F K 0 1
    ·rw [dc_t he]
     have HE0:Hid (ex F K 0 1):=he
     clear he
     go_wp2_with fail
     refine ((show Sy nm W2 w.heap.size _ n F _ _ _ p A _ K from HSY).kid 1 1 rfl (by omega) _ B2).mono ?_
     rintro e w3 ⟨rfl,B3⟩
     clear c0 c1 c2 c3 c4 c5 c6 c7 c8 c9 ct
     obtain ⟨c0,c1,c2,c3,c4,c5,c6,c7,c8,c9⟩:=(show Sy nm W2 w.heap.size _ n F _ _ _ p A _ K from HSY).bx.below B3
     have ct:=(B3.cell (p:=⟨w.heap.size,0,none⟩) (lt_of_cell (show Sy nm W2 w.heap.size _ n F _ _ _ p A _ K from HSY).ct)).trans (show Sy nm W2 w.heap.size _ n F _ _ _ p A _ K from HSY).ct
     dsimp only at c0 c1 c2 c3 c4 c5 c6 c7
     by_cases hk1:kdk F K 1=1
     ·have ek1:=beq1 hk1
      have HK1:Hid (kdk F K 1=1):=hk1
      have nk1:(kdk F K 1 != 1)=false:=by rw [hk1];rfl
      clear hk1
      go_wp2_with fail
      refine ((show Sy nm W2 w.heap.size _ n F _ _ _ p A _ K from HSY).kid 2 2 rfl (by omega) _ B3).mono ?_
      rintro e w4 ⟨rfl,B4⟩
      clear c0 c1 c2 c3 c4 c5 c6 c7 c8 c9 ct
      obtain ⟨c0,c1,c2,c3,c4,c5,c6,c7,c8,c9⟩:=(show Sy nm W2 w.heap.size _ n F _ _ _ p A _ K from HSY).bx.below B4
      have ct:=(B4.cell (p:=⟨w.heap.size,0,none⟩) (lt_of_cell (show Sy nm W2 w.heap.size _ n F _ _ _ p A _ K from HSY).ct)).trans (show Sy nm W2 w.heap.size _ n F _ _ _ p A _ K from HSY).ct
      dsimp only at c0 c1 c2 c3 c4 c5 c6 c7
      by_cases hk2:kdk F K 2=1
      ·have ek2:=beq1 hk2
       have HK2:Hid (kdk F K 2=1):=hk2
       clear hk2
       go_wp2_with fail
       go_ret
       exact ⟨by rw [show R = _ from HR,dc_t ⟨HB0,(by first | exact Or.inl rfl | exact Or.inr rfl | exact Or.inl trivial | exact Or.inr trivial | trivial),HE0,HK1,Or.inr (Or.inl HK2)⟩];first | rfl | (simp [*];done),(show ∀ W,Below W2.heap.size W2 W→Below w.heap.size w W from HBL) _ B4⟩
      ·have ek2:=bne hk2
       have HK2:Hid (Nt (kdk F K 2=1)):=hk2
       clear hk2
       go_wp2_with fail
       refine ((show Sy nm W2 w.heap.size _ n F _ _ _ p A _ K from HSY).kid 2 2 rfl (by omega) _ B4).mono ?_
       rintro e w5 ⟨rfl,B5⟩
       clear c0 c1 c2 c3 c4 c5 c6 c7 c8 c9 ct
       obtain ⟨c0,c1,c2,c3,c4,c5,c6,c7,c8,c9⟩:=(show Sy nm W2 w.heap.size _ n F _ _ _ p A _ K from HSY).bx.below B5
       have ct:=(B5.cell (p:=⟨w.heap.size,0,none⟩) (lt_of_cell (show Sy nm W2 w.heap.size _ n F _ _ _ p A _ K from HSY).ct)).trans (show Sy nm W2 w.heap.size _ n F _ _ _ p A _ K from HSY).ct
       dsimp only at c0 c1 c2 c3 c4 c5 c6 c7
       by_cases hk3:kdk F K 2=7
       ·have ek3:=beq1 hk3
        have HK3:Hid (kdk F K 2=7):=hk3
        clear hk3
        go_wp2_with fail
        go_ret
        exact ⟨by rw [show R = _ from HR,dc_t ⟨HB0,(by first | exact Or.inl rfl | exact Or.inr rfl | exact Or.inl trivial | exact Or.inr trivial | trivial),HE0,HK1,Or.inr (Or.inr HK3)⟩];first | rfl | (simp [*];done),(show ∀ W,Below W2.heap.size W2 W→Below w.heap.size w W from HBL) _ B5⟩
       ·have ek3:=bne hk3
        have HK3:Hid (Nt (kdk F K 2=7)):=hk3
        clear hk3
        go_wp2_with fail
        go_ret
        exact ⟨by rw [show R = _ from HR,dc_f (fun g=>by rcases g.2.2.2.2 with g1 | g1 | g1;(exact absurd g1 (by omega));(exact HK2 g1);(exact HK3 g1))];first | rfl | (simp [*];done),(show ∀ W,Below W2.heap.size W2 W→Below w.heap.size w W from HBL) _ B5⟩
     ·have ek1:=bne hk1
      have HK1:Hid (Nt (kdk F K 1=1)):=hk1
      have nk1:(kdk F K 1 != 1)=true:=bne_iff_ne.2 hk1
      clear hk1
      go_wp2_with fail
      go_ret
      exact ⟨by rw [show R = _ from HR,dc_f (fun g=>HK1 g.2.2.2.1)];first | rfl | (simp [*];done),(show ∀ W,Below W2.heap.size W2 W→Below w.heap.size w W from HBL) _ B3⟩
    ·rw [dc_f he]
     have HE0:Hid (Nt (ex F K 0 1)):=he
     clear he
     go_wp2_with fail
     go_ret
     exact ⟨by rw [show R = _ from HR,dc_f (fun g=>HE0 g.2.2.1)];first | rfl | (simp [*];done),(show ∀ W,Below W2.heap.size W2 W→Below w.heap.size w W from HBL) _ B2⟩
   ·have HQ:Hid (Nt (q=2∨q=3)):=(fun g=>g.elim h2 h3:Nt _)
    rcases Nat.lt_or_ge q 2 with h4 | h4
    ·have e4:(q:Int) < 2:=by omega
     go_wp2_with fail
     go_ret
     exact ⟨by rw [show R = _ from HR,dc_f (fun g=>HQ g.2.1)];first | rfl | (simp [*];done),(show ∀ W,Below W2.heap.size W2 W→Below w.heap.size w W from HBL) _ B1⟩
    ·have e4:¬ (q:Int) < 2:=by omega
     have e5:(3:Int) < (q:Int):=by omega
     go_wp2_with fail
     go_ret
     exact ⟨by rw [show R = _ from HR,dc_f (fun g=>HQ g.2.1)];first | rfl | (simp [*];done),(show ∀ W,Below W2.heap.size W2 W→Below w.heap.size w W from HBL) _ B1⟩
 ·rw [dc_f hb]
  have HB0:Hid (Nt (br ⟨7,f,t,l,o,m,g,x⟩ p false false false false)):=hb
  clear hb
  go_wp2_with fail
  go_ret
  exact ⟨by rw [show R = _ from HR,dc_f (fun g=>HB0 g.1)];first | rfl | (simp [*];done),(show ∀ W,Below W2.heap.size W2 W→Below w.heap.size w W from HBL) _ B1⟩
theorem st_5 {nm : ByteArray → Prop} {w : World} {v : Value} {n : Nat} {F : Nat → Gv} {vn vk : Value} {p : Nat} {A : Nat → ByteArray} {q : Nat} {K : Nat → Int} (s : Sx nm w v n F vn vk p A q K) (a : Fv) (hga : a.g < 18446744073709551616) (hk : a.k = 5) :
  Calls Tryz.prog 86 #[.agg #[v],fmv a vn vk] w fun e w'=>e = .returned (.bool (dc (br a p false true false false∧1≤a.m∧a.m < (q:Int)∧(∀ j,j < a.m.toNat→kdk F K j=26∨kdk F K j=32∨kdk F K j=33)∧ex F K a.m.toNat q)))∧Below w.heap.size w w':=by
 have hs:=s.sy a hga 56 102
 obtain ⟨W2,hW2⟩:∃ W2,W2=(w.alloc (.cells #[v] 56)).alloc (.cells #[.int .i64 a.k,.int .i64 a.f,.int .i64 a.t,.int .i64 a.l,.int .i64 a.o,.int .i64 a.m,.float .f64 a.g,.string a.x,vn,vk] 102):=⟨_,rfl⟩
 rw [← hW2] at hs
 have HBL:Hid (∀ W,Below W2.heap.size W2 W→Below w.heap.size w W):=(fun W hb=>by rw [hW2] at hb;exact (bel2 w _ _).trans (hb.mono (bel2 w _ _).size):∀ W,_)
 have HSY:Hid (Sy nm W2 w.heap.size v n F a vn vk p A q K):=hs
 have hqI:(q:Int)≤1048576:=by have:=s.hq;omega
 obtain ⟨pn,cn,rfl,_⟩:=s.rn
 obtain ⟨pk,ck,rfl,_⟩:=s.rk
 obtain ⟨pf,cf,rfl,_⟩:=s.rf
 obtain ⟨R,hR⟩:∃ R,R=dc (br a p false true false false∧1≤a.m∧a.m < (q:Int)∧(∀ j,j < a.m.toNat→kdk F K j=26∨kdk F K j=32∨kdk F K j=33)∧ex F K a.m.toNat q):=⟨_,rfl⟩
 have HR:Hid (R=dc (br a p false true false false∧1≤a.m∧a.m < (q:Int)∧(∀ j,j < a.m.toNat→kdk F K j=26∨kdk F K j=32∨kdk F K j=33)∧ex F K a.m.toNat q)):=hR
 rw [← hR]
 clear hs s hR hga
 obtain ⟨k,f,t,l,o,m,g,x⟩:=a
 dsimp only at hk
 subst hk
 go_enter Tryz.func86,Tryz.ntmps86
 unfold fmv
 dsimp only at hW2
 go_wp2_with fail
 rw [← hW2]
 clear hW2
 have B0:Below W2.heap.size W2 W2:=Below.refl _ _
 obtain ⟨c0,c1,c2,c3,c4,c5,c6,c7,c8,c9⟩:=(show Sy nm W2 w.heap.size _ n F _ _ _ p A _ K from HSY).bx.below B0
 have ct:=(B0.cell (p:=⟨w.heap.size,0,none⟩) (lt_of_cell (show Sy nm W2 w.heap.size _ n F _ _ _ p A _ K from HSY).ct)).trans (show Sy nm W2 w.heap.size _ n F _ _ _ p A _ K from HSY).ct
 dsimp only at c0 c1 c2 c3 c4 c5 c6 c7
 go_wp2_with fail
 refine ((show Sy nm W2 w.heap.size _ n F _ _ _ p A _ K from HSY).bare false true false false _ B0).mono ?_
 rintro e w1 ⟨rfl,B1⟩
 clear c0 c1 c2 c3 c4 c5 c6 c7 c8 c9 ct
 obtain ⟨c0,c1,c2,c3,c4,c5,c6,c7,c8,c9⟩:=(show Sy nm W2 w.heap.size _ n F _ _ _ p A _ K from HSY).bx.below B1
 have ct:=(B1.cell (p:=⟨w.heap.size,0,none⟩) (lt_of_cell (show Sy nm W2 w.heap.size _ n F _ _ _ p A _ K from HSY).ct)).trans (show Sy nm W2 w.heap.size _ n F _ _ _ p A _ K from HSY).ct
 dsimp only at c0 c1 c2 c3 c4 c5 c6 c7
 by_cases hb:br ⟨5,f,t,l,o,m,g,x⟩ p false true false false
 ·rw [dc_t hb]
  have HB0:Hid (br ⟨5,f,t,l,o,m,g,x⟩ p false true false false):=hb
  clear hb
  rcases Int.lt_or_le m 1 with h1 | h1
  ·have HN:Hid (Nt (1≤m)):=(fun g=>by omega:Nt _)
   go_wp2_with fail
   go_ret
   exact ⟨by rw [show R = _ from HR,dc_f (fun g=>HN g.2.1)];first | rfl | (simp [*];done),(show ∀ W,Below W2.heap.size W2 W→Below w.heap.size w W from HBL) _ B1⟩
  ·have h1':¬ m < 1:=by omega
   rcases Int.lt_or_le m (q:Int) with h2 | h2
   ·have h2':¬ (q:Int)≤m:=by omega
    obtain ⟨M,hM⟩:∃ M:Nat,m=(M:Int):=⟨m.toNat,by omega⟩
    subst hM
    have HM:Hid (((M:Int)).toNat=M):=Int.toNat_natCast M
    have HB1:Hid (Below W2.heap.size W2 w1):=B1
    have HQ:Hid (1≤(M:Int)∧(M:Int) < (q:Int)):=(⟨h1,h2⟩:_∧_)
    clear B0 B1
    go_wp2_with fail
    have d1:decide (q≤M)=false:=decide_eq_false (by omega)
    have d0:decide ((M:Int) < 1)=false:=decide_eq_false (by omega)
    simp only [d0,d1,Bool.or_false]
    clear d0 d1 h1 h1' h2 h2'
    go_loopw [7] (fun sr wr=>∃ i:Nat,sr = .int .i64 (i:Int)∧i≤M∧Hid (Below W2.heap.size W2 wr)∧Hid (∀ j,j < i→kdk F K j=26∨kdk F K j=32∨kdk F K j=33)) (fun sr _=>M - (intOf sr).toNat)
    case atStart=>exact ⟨0,rfl,Nat.zero_le _,HB1,(fun j hj=>by omega:∀ j,j < 0→_)⟩
    case round =>
     clear c0 c1 c2 c3 c4 c5 c6 c7 c8 c9 ct
     obtain ⟨i,rfl,hin,HB,HI⟩:=hrel
     have B:=(show Below W2.heap.size W2 wr from HB)
     have hI:=(show ∀ j,j < i→kdk F K j=26∨kdk F K j=32∨kdk F K j=33 from HI)
     obtain ⟨c0,c1,c2,c3,c4,c5,c6,c7,c8,c9⟩:=(show Sy nm W2 w.heap.size _ n F _ _ _ p A _ K from HSY).bx.below B
     have ct:=(B.cell (p:=⟨w.heap.size,0,none⟩) (lt_of_cell (show Sy nm W2 w.heap.size _ n F _ _ _ p A _ K from HSY).ct)).trans (show Sy nm W2 w.heap.size _ n F _ _ _ p A _ K from HSY).ct
     dsimp only at c0 c1 c2 c3 c4 c5 c6 c7
     rcases Nat.lt_or_ge i M with hi | hi
     ·have hiI:(i:Int) < (M:Int):=by omega
      have HK:Hid (∀ W,Below W2.heap.size W2 W→Calls Tryz.prog 116 #[.agg #[.slice pf n cf],fmv ⟨5,f,t,l,o,(M:Int),g,x⟩ (.slice pn p cn) (.slice pk q ck),.int .i64 (i:Int)] W fun e w'=>e = .returned (.int .i64 (kdk F K i))∧Below W2.heap.size W2 w'):=(fun W hb=>(show Sy nm W2 w.heap.size _ n F _ _ _ p A _ K from HSY).kid (i:Int) i rfl (by have:=(show 1≤(M:Int)∧(M:Int) < (q:Int) from HQ).2;omega) W hb:∀ W,_)
      have hst:=fun W=>sp_target (kdk F K i) W
      by_cases hg:kdk F K i=26∨kdk F K i=32∨kdk F K i=33
      ·rw [dc_t hg] at hst
       have HX:Hid (∀ j,j < i+1→kdk F K j=26∨kdk F K j=32∨kdk F K j=33):=(fun j hj=>by
        by_cases e:j=i
        ·rw [e];exact hg
        ·exact hI j (by omega):∀ j,_)
       have HST:Hid (∀ W,Calls Tryz.prog 120 #[.int .i64 (kdk F K i)] W fun e w'=>e = .returned (.bool true)∧w'=W):=hst
       clear hI HI hin hg B hst
       go_wp2_with fail
       refine ((show ∀ W,Below W2.heap.size W2 W→_ from HK) _ HB).mono ?_
       rintro e w2 ⟨rfl,B2⟩
       have HB2:Hid (Below W2.heap.size W2 w2):=B2
       clear HK c0 c1 c2 c3 c4 c5 c6 c7 c8 c9 ct B2
       generalize kdk F K i=z at *
       go_wp2_with fail
       refine ((show ∀ W,_ from HST) _).mono ?_
       rintro e w3 ⟨rfl,rfl⟩
       clear HST
       go_wp2_with fail
       go_roundw
       case rel=>exact ⟨i+1,by go_num,by omega,HB2,HX⟩
       case measure=>simp [intOf];omega
      ·rw [dc_f hg] at hst
       have HN9:Hid (Nt (∀ j,j < (M:Int).toNat→kdk F K j=26∨kdk F K j=32∨kdk F K j=33)):=(fun g=>hg (g i (by omega)):Nt _)
       have HST:Hid (∀ W,Calls Tryz.prog 120 #[.int .i64 (kdk F K i)] W fun e w'=>e = .returned (.bool false)∧w'=W):=hst
       clear hI HI hin hg B hst
       go_wp2_with fail
       refine ((show ∀ W,Below W2.heap.size W2 W→_ from HK) _ HB).mono ?_
       rintro e w2 ⟨rfl,B2⟩
       have HB2:Hid (Below W2.heap.size W2 w2):=B2
       clear HK c0 c1 c2 c3 c4 c5 c6 c7 c8 c9 ct B2
       generalize kdk F K i=z at *
       go_wp2_with fail
       refine ((show ∀ W,_ from HST) _).mono ?_
       rintro e w3 ⟨rfl,rfl⟩
       clear HST
       go_wp2_with fail
       go_ret
       exact ⟨by rw [show R = _ from HR,dc_f (fun g=>HN9 g.2.2.2.1)];first | rfl | (simp [*];done),(show ∀ W,Below W2.heap.size W2 W→Below w.heap.size w W from HBL) _ HB2⟩
     ·obtain rfl:i=M:=by omega
      have HI2:Hid (∀ j,j < (i:Int).toNat→kdk F K j=26∨kdk F K j=32∨kdk F K j=33):=(fun j hj=>hI j (by omega):∀ j,_)
      clear hI HI B
      go_wp2_with fail
      refine ((show Sy nm W2 w.heap.size _ n F _ _ _ p A _ K from HSY).exprs _ _ i q rfl rfl (Nat.le_refl _) (by have:=(show 1≤(i:Int)∧(i:Int) < (q:Int) from HQ).2;omega) _ HB).mono ?_
      rintro e w2 ⟨rfl,B2⟩
      have HB2:Hid (Below W2.heap.size W2 w2):=B2
      clear B2 c0 c1 c2 c3 c4 c5 c6 c7 c8 c9 ct
      by_cases he:ex F K i q
      ·rw [dc_t he]
       have HE:Hid (ex F K (i:Int).toNat q):=by rw [Int.toNat_natCast];exact he
       have HR2:Hid (R=true):=(show R = _ from HR).trans (dc_t ⟨HB0,(show 1≤(i:Int)∧(i:Int) < (q:Int) from HQ).1,(show 1≤(i:Int)∧(i:Int) < (q:Int) from HQ).2,HI2,HE⟩)
       clear he
       go_wp2_with fail
       go_ret
       exact ⟨by rw [show R=true from HR2];rfl,(show ∀ W,Below W2.heap.size W2 W→Below w.heap.size w W from HBL) _ HB2⟩
      ·rw [dc_f he]
       have HR2:Hid (R=false):=(show R = _ from HR).trans (dc_f (fun g=>he (by have:=g.2.2.2.2;rwa [Int.toNat_natCast] at this)))
       clear he
       go_wp2_with fail
       go_ret
       exact ⟨by rw [show R=false from HR2];rfl,(show ∀ W,Below W2.heap.size W2 W→Below w.heap.size w W from HBL) _ HB2⟩
   ·have HN:Hid (Nt (m < (q:Int))):=(fun g=>by omega:Nt _)
    go_wp2_with fail
    go_ret
    exact ⟨by rw [show R = _ from HR,dc_f (fun g=>HN g.2.2.1)];first | rfl | (simp [*];done),(show ∀ W,Below W2.heap.size W2 W→Below w.heap.size w W from HBL) _ B1⟩
 ·rw [dc_f hb]
  have HB0:Hid (Nt (br ⟨5,f,t,l,o,m,g,x⟩ p false true false false)):=hb
  clear hb
  go_wp2_with fail
  go_ret
  exact ⟨by rw [show R = _ from HR,dc_f (fun g=>HB0 g.1)];first | rfl | (simp [*];done),(show ∀ W,Below W2.heap.size W2 W→Below w.heap.size w W from HBL) _ B1⟩
theorem xp_20 {nm : ByteArray → Prop} {w : World} {v : Value} {n : Nat} {F : Nat → Gv} {vn vk : Value} {p : Nat} {A : Nat → ByteArray} {q : Nat} {K : Nat → Int} (s : Sx nm w v n F vn vk p A q K) (a : Fv) (hga : a.g < 18446744073709551616) (hk : a.k = 20) :
  Calls Tryz.prog 87 #[.agg #[v],fmv a vn vk] w fun e w'=>e = .returned (.bool (dc (q=0∧br a p false false false false)))∧Below w.heap.size w w':=by
 have hs:=s.sy a hga 56 102
 obtain ⟨W2,hW2⟩:∃ W2,W2=(w.alloc (.cells #[v] 56)).alloc (.cells #[.int .i64 a.k,.int .i64 a.f,.int .i64 a.t,.int .i64 a.l,.int .i64 a.o,.int .i64 a.m,.float .f64 a.g,.string a.x,vn,vk] 102):=⟨_,rfl⟩
 rw [← hW2] at hs
 have HBL:Hid (∀ W,Below W2.heap.size W2 W→Below w.heap.size w W):=(fun W hb=>by rw [hW2] at hb;exact (bel2 w _ _).trans (hb.mono (bel2 w _ _).size):∀ W,_)
 have HSY:Hid (Sy nm W2 w.heap.size v n F a vn vk p A q K):=hs
 have hqI:(q:Int)≤1048576:=by have:=s.hq;omega
 obtain ⟨pn,cn,rfl,_⟩:=s.rn
 obtain ⟨pk,ck,rfl,_⟩:=s.rk
 obtain ⟨pf,cf,rfl,_⟩:=s.rf
 have HSQ:Hid (q≤1048576):=s.hq
 obtain ⟨R,hR⟩:∃ R,R=dc (q=0∧br a p false false false false):=⟨_,rfl⟩
 have HR:Hid (R=dc (q=0∧br a p false false false false)):=hR
 rw [← hR]
 clear hs s hR hga
 obtain ⟨k,f,t,l,o,m,g,x⟩:=a
 dsimp only at hk
 subst hk
 by_cases hq0:q=0
 ·subst hq0
  go_enter Tryz.func87,Tryz.ntmps87
  unfold fmv
  dsimp only at hW2
  go_wp2_with fail
  rw [← hW2]
  clear hW2
  have B0:Below W2.heap.size W2 W2:=Below.refl _ _
  obtain ⟨c0,c1,c2,c3,c4,c5,c6,c7,c8,c9⟩:=(show Sy nm W2 w.heap.size _ n F _ _ _ p A _ K from HSY).bx
  have ct:=(show Sy nm W2 w.heap.size _ n F _ _ _ p A _ K from HSY).ct
  dsimp only at c0 c1 c2 c3 c4 c5 c6 c7
  go_wp2_with fail
  refine ((show Sy nm W2 w.heap.size _ n F _ _ _ p A _ K from HSY).bare false false false false _ B0).mono ?_
  rintro e w1 ⟨rfl,B1⟩
  clear c0 c1 c2 c3 c4 c5 c6 c7 c8 c9 ct
  obtain ⟨c0,c1,c2,c3,c4,c5,c6,c7,c8,c9⟩:=(show Sy nm W2 w.heap.size _ n F _ _ _ p A _ K from HSY).bx.below B1
  have ct:=(B1.cell (p:=⟨w.heap.size,0,none⟩) (lt_of_cell (show Sy nm W2 w.heap.size _ n F _ _ _ p A _ K from HSY).ct)).trans (show Sy nm W2 w.heap.size _ n F _ _ _ p A _ K from HSY).ct
  dsimp only at c0 c1 c2 c3 c4 c5 c6 c7
  by_cases h1:br ⟨20,f,t,l,o,m,g,x⟩ p false false false false
  ·rw [dc_t h1]
   have HH1:Hid (br ⟨20,f,t,l,o,m,g,x⟩ p false false false false):=h1
   clear h1
   go_wp2_with fail
   go_ret
   exact ⟨by rw [show R = _ from HR,dc_t ⟨(by first | rfl | trivial),HH1⟩];first | rfl | (simp [*];done),(show ∀ W,Below W2.heap.size W2 W→Below w.heap.size w W from HBL) _ B1⟩
  ·rw [dc_f h1]
   have HN9:Hid (¬ (br ⟨20,f,t,l,o,m,g,x⟩ p false false false false)):=h1
   clear h1
   go_wp2_with fail
   go_ret
   exact ⟨by rw [show R = _ from HR,dc_f (fun g=>HN9 g.2)];first | rfl | (simp [*];done),(show ∀ W,Below W2.heap.size W2 W→Below w.heap.size w W from HBL) _ B1⟩
 ·have e0:((q:Int) == 0)=false:=bne (by omega)
  have HN9:Hid (¬ (q=0)):=hq0
  clear hq0
  go_enter Tryz.func87,Tryz.ntmps87
  unfold fmv
  dsimp only at hW2
  go_wp2_with fail
  go_ret
  exact ⟨by rw [show R = _ from HR,dc_f (fun g=>HN9 g.1)];rfl,bel2 _ _ _⟩
theorem xp_23 {nm : ByteArray → Prop} {w : World} {v : Value} {n : Nat} {F : Nat → Gv} {vn vk : Value} {p : Nat} {A : Nat → ByteArray} {q : Nat} {K : Nat → Int} (s : Sx nm w v n F vn vk p A q K) (a : Fv) (hga : a.g < 18446744073709551616) (hk : a.k = 23) :
  Calls Tryz.prog 87 #[.agg #[v],fmv a vn vk] w fun e w'=>e = .returned (.bool (dc (q=0∧br a p false true false false)))∧Below w.heap.size w w':=by
 have hs:=s.sy a hga 56 102
 obtain ⟨W2,hW2⟩:∃ W2,W2=(w.alloc (.cells #[v] 56)).alloc (.cells #[.int .i64 a.k,.int .i64 a.f,.int .i64 a.t,.int .i64 a.l,.int .i64 a.o,.int .i64 a.m,.float .f64 a.g,.string a.x,vn,vk] 102):=⟨_,rfl⟩
 rw [← hW2] at hs
 have HBL:Hid (∀ W,Below W2.heap.size W2 W→Below w.heap.size w W):=(fun W hb=>by rw [hW2] at hb;exact (bel2 w _ _).trans (hb.mono (bel2 w _ _).size):∀ W,_)
 have HSY:Hid (Sy nm W2 w.heap.size v n F a vn vk p A q K):=hs
 have hqI:(q:Int)≤1048576:=by have:=s.hq;omega
 obtain ⟨pn,cn,rfl,_⟩:=s.rn
 obtain ⟨pk,ck,rfl,_⟩:=s.rk
 obtain ⟨pf,cf,rfl,_⟩:=s.rf
 have HSQ:Hid (q≤1048576):=s.hq
 obtain ⟨R,hR⟩:∃ R,R=dc (q=0∧br a p false true false false):=⟨_,rfl⟩
 have HR:Hid (R=dc (q=0∧br a p false true false false)):=hR
 rw [← hR]
 clear hs s hR hga
 obtain ⟨k,f,t,l,o,m,g,x⟩:=a
 dsimp only at hk
 subst hk
 by_cases hq0:q=0
 ·subst hq0
  go_enter Tryz.func87,Tryz.ntmps87
  unfold fmv
  dsimp only at hW2
  go_wp2_with fail
  rw [← hW2]
  clear hW2
  have B0:Below W2.heap.size W2 W2:=Below.refl _ _
  obtain ⟨c0,c1,c2,c3,c4,c5,c6,c7,c8,c9⟩:=(show Sy nm W2 w.heap.size _ n F _ _ _ p A _ K from HSY).bx
  have ct:=(show Sy nm W2 w.heap.size _ n F _ _ _ p A _ K from HSY).ct
  dsimp only at c0 c1 c2 c3 c4 c5 c6 c7
  go_wp2_with fail
  refine ((show Sy nm W2 w.heap.size _ n F _ _ _ p A _ K from HSY).bare false true false false _ B0).mono ?_
  rintro e w1 ⟨rfl,B1⟩
  clear c0 c1 c2 c3 c4 c5 c6 c7 c8 c9 ct
  obtain ⟨c0,c1,c2,c3,c4,c5,c6,c7,c8,c9⟩:=(show Sy nm W2 w.heap.size _ n F _ _ _ p A _ K from HSY).bx.below B1
  have ct:=(B1.cell (p:=⟨w.heap.size,0,none⟩) (lt_of_cell (show Sy nm W2 w.heap.size _ n F _ _ _ p A _ K from HSY).ct)).trans (show Sy nm W2 w.heap.size _ n F _ _ _ p A _ K from HSY).ct
  dsimp only at c0 c1 c2 c3 c4 c5 c6 c7
  by_cases h1:br ⟨23,f,t,l,o,m,g,x⟩ p false true false false
  ·rw [dc_t h1]
   have HH1:Hid (br ⟨23,f,t,l,o,m,g,x⟩ p false true false false):=h1
   clear h1
   go_wp2_with fail
   go_ret
   exact ⟨by rw [show R = _ from HR,dc_t ⟨(by first | rfl | trivial),HH1⟩];first | rfl | (simp [*];done),(show ∀ W,Below W2.heap.size W2 W→Below w.heap.size w W from HBL) _ B1⟩
  ·rw [dc_f h1]
   have HN9:Hid (¬ (br ⟨23,f,t,l,o,m,g,x⟩ p false true false false)):=h1
   clear h1
   go_wp2_with fail
   go_ret
   exact ⟨by rw [show R = _ from HR,dc_f (fun g=>HN9 g.2)];first | rfl | (simp [*];done),(show ∀ W,Below W2.heap.size W2 W→Below w.heap.size w W from HBL) _ B1⟩
 ·have e0:((q:Int) == 0)=false:=bne (by omega)
  have HN9:Hid (¬ (q=0)):=hq0
  clear hq0
  go_enter Tryz.func87,Tryz.ntmps87
  unfold fmv
  dsimp only at hW2
  go_wp2_with fail
  go_ret
  exact ⟨by rw [show R = _ from HR,dc_f (fun g=>HN9 g.1)];rfl,bel2 _ _ _⟩
theorem xp_24 {nm : ByteArray → Prop} {w : World} {v : Value} {n : Nat} {F : Nat → Gv} {vn vk : Value} {p : Nat} {A : Nat → ByteArray} {q : Nat} {K : Nat → Int} (s : Sx nm w v n F vn vk p A q K) (a : Fv) (hga : a.g < 18446744073709551616) (hk : a.k = 24) :
  Calls Tryz.prog 87 #[.agg #[v],fmv a vn vk] w fun e w'=>e = .returned (.bool (dc (q=0∧br { a with g:=0 } p false false false false∧fn a.g)))∧Below w.heap.size w w':=by
 have hs:=s.sy a hga 56 102
 obtain ⟨W2,hW2⟩:∃ W2,W2=(w.alloc (.cells #[v] 56)).alloc (.cells #[.int .i64 a.k,.int .i64 a.f,.int .i64 a.t,.int .i64 a.l,.int .i64 a.o,.int .i64 a.m,.float .f64 a.g,.string a.x,vn,vk] 102):=⟨_,rfl⟩
 rw [← hW2] at hs
 have HBL:Hid (∀ W,Below W2.heap.size W2 W→Below w.heap.size w W):=(fun W hb=>by rw [hW2] at hb;exact (bel2 w _ _).trans (hb.mono (bel2 w _ _).size):∀ W,_)
 have HSY:Hid (Sy nm W2 w.heap.size v n F a vn vk p A q K):=hs
 have hqI:(q:Int)≤1048576:=by have:=s.hq;omega
 have hpI:(p:Int)≤1048576:=by have:=s.hp;omega
 obtain ⟨pn,cn,rfl,_⟩:=s.rn
 obtain ⟨pk,ck,rfl,_⟩:=s.rk
 obtain ⟨pf,cf,rfl,_⟩:=s.rf
 obtain ⟨R,hR⟩:∃ R,R=dc (q=0∧br { a with g:=0 } p false false false false∧fn a.g):=⟨_,rfl⟩
 have HR:Hid (R=dc (q=0∧br { a with g:=0 } p false false false false∧fn a.g)):=hR
 rw [← hR]
 have hfc:=f_cases a.g hga
 clear hs s hR hga
 obtain ⟨k,f,t,l,o,m,g,x⟩:=a
 dsimp only at hk hfc
 subst hk
 have hst:∀ (a:Addr) (n:Nat) (m:Mode) (w:World),(store a (.float .f64 n) m).run Tryz.prog w=stored Tryz.prog w a (.float .f64 n) m:=fun a n m w=>run_store _ _ _ _ _ rfl
 by_cases hq0:q=0
 ·subst hq0
  go_enter Tryz.func87,Tryz.ntmps87
  unfold fmv
  dsimp only at hW2
  go_wp2_with fail
  rw [← hW2]
  clear hW2 hst
  have hb:=sp_bare ⟨24,f,t,l,o,m,0,x⟩ (by show (0:Nat) < _;omega) pn p cn (.slice pk 0 ck) ⟨pk,0,ck,rfl⟩ false false false false
  unfold fmv at hb
  refine ((hb _ hpI).mono ?_)
  rintro e w1 ⟨rfl,b1⟩
  have B1:Below W2.heap.size W2 w1:=(bel1 W2 _).trans (b1.mono (by simp))
  have c6:=((show Sy nm W2 w.heap.size _ n F _ _ _ p A _ K from HSY).bx.below B1).c6
  dsimp only at c6
  clear hb b1
  by_cases h1:br ⟨24,f,t,l,o,m,0,x⟩ p false false false false
  ·have e1:dc ((false=true∨o=0)∧(false=true∨m=0)∧fz 0∧(false=true∨x=⟨#[]⟩)∧(false=true∨p=0))=true:=dc_t h1
   rw [e1]
   have HH1:Hid (br ⟨24,f,t,l,o,m,0,x⟩ p false false false false):=h1
   clear h1 e1
   rcases hfc with ⟨_,h2,g2,_⟩ | ⟨_,h2,g2,_⟩ | ⟨_,h2,g2,_⟩
   ·have HN9:Hid (¬ fn g):=h2
    go_wp2_with fail
    go_ret
    exact ⟨by rw [show R = _ from HR,dc_f (fun z=>HN9 z.2.2)];first | rfl | (simp [*];done),(show ∀ W,Below W2.heap.size W2 W→Below w.heap.size w W from HBL) _ B1⟩
   ·have HH2:Hid (fn g):=h2
    go_wp2_with fail
    go_ret
    exact ⟨by rw [show R = _ from HR,dc_t ⟨(by first | rfl | trivial),HH1,HH2⟩];first | rfl | (simp [*];done),(show ∀ W,Below W2.heap.size W2 W→Below w.heap.size w W from HBL) _ B1⟩
   ·have HH2:Hid (fn g):=h2
    go_wp2_with fail
    go_ret
    exact ⟨by rw [show R = _ from HR,dc_t ⟨(by first | rfl | trivial),HH1,HH2⟩];first | rfl | (simp [*];done),(show ∀ W,Below W2.heap.size W2 W→Below w.heap.size w W from HBL) _ B1⟩
  ·have e1:dc ((false=true∨o=0)∧(false=true∨m=0)∧fz 0∧(false=true∨x=⟨#[]⟩)∧(false=true∨p=0))=false:=dc_f h1
   rw [e1]
   have HN9:Hid (¬ (br ⟨24,f,t,l,o,m,0,x⟩ p false false false false)):=h1
   clear h1 e1 hfc
   go_wp2_with fail
   go_ret
   exact ⟨by rw [show R = _ from HR,dc_f (fun z=>HN9 z.2.1)];first | rfl | (simp [*];done),(show ∀ W,Below W2.heap.size W2 W→Below w.heap.size w W from HBL) _ B1⟩
 ·have e0:((q:Int) == 0)=false:=bne (by omega)
  have HN9:Hid (¬ (q=0)):=hq0
  clear hq0 hfc
  go_enter Tryz.func87,Tryz.ntmps87
  unfold fmv
  dsimp only at hW2
  go_wp2_with fail
  rw [← hW2]
  clear hW2
  go_ret
  exact ⟨by rw [show R = _ from HR,dc_f (fun g=>HN9 g.1)];rfl,(show ∀ W,Below W2.heap.size W2 W→Below w.heap.size w W from HBL) _ (bel1 _ _)⟩
theorem xp_25 {nm : ByteArray → Prop} {w : World} {v : Value} {n : Nat} {F : Nat → Gv} {vn vk : Value} {p : Nat} {A : Nat → ByteArray} {q : Nat} {K : Nat → Int} (s : Sx nm w v n F vn vk p A q K) (a : Fv) (hga : a.g < 18446744073709551616) (hk : a.k = 25) :
  Calls Tryz.prog 87 #[.agg #[v],fmv a vn vk] w fun e w'=>e = .returned (.bool (dc (q=0∧br a p false false true false∧a.x.size≤4000)))∧Below w.heap.size w w':=by
 have hs:=s.sy a hga 56 102
 obtain ⟨W2,hW2⟩:∃ W2,W2=(w.alloc (.cells #[v] 56)).alloc (.cells #[.int .i64 a.k,.int .i64 a.f,.int .i64 a.t,.int .i64 a.l,.int .i64 a.o,.int .i64 a.m,.float .f64 a.g,.string a.x,vn,vk] 102):=⟨_,rfl⟩
 rw [← hW2] at hs
 have HBL:Hid (∀ W,Below W2.heap.size W2 W→Below w.heap.size w W):=(fun W hb=>by rw [hW2] at hb;exact (bel2 w _ _).trans (hb.mono (bel2 w _ _).size):∀ W,_)
 have HSY:Hid (Sy nm W2 w.heap.size v n F a vn vk p A q K):=hs
 have hqI:(q:Int)≤1048576:=by have:=s.hq;omega
 obtain ⟨pn,cn,rfl,_⟩:=s.rn
 obtain ⟨pk,ck,rfl,_⟩:=s.rk
 obtain ⟨pf,cf,rfl,_⟩:=s.rf
 have HSQ:Hid (q≤1048576):=s.hq
 obtain ⟨R,hR⟩:∃ R,R=dc (q=0∧br a p false false true false∧a.x.size≤4000):=⟨_,rfl⟩
 have HR:Hid (R=dc (q=0∧br a p false false true false∧a.x.size≤4000)):=hR
 rw [← hR]
 clear hs s hR hga
 obtain ⟨k,f,t,l,o,m,g,x⟩:=a
 dsimp only at hk
 subst hk
 by_cases hq0:q=0
 ·subst hq0
  go_enter Tryz.func87,Tryz.ntmps87
  unfold fmv
  dsimp only at hW2
  go_wp2_with fail
  rw [← hW2]
  clear hW2
  have B0:Below W2.heap.size W2 W2:=Below.refl _ _
  obtain ⟨c0,c1,c2,c3,c4,c5,c6,c7,c8,c9⟩:=(show Sy nm W2 w.heap.size _ n F _ _ _ p A _ K from HSY).bx
  have ct:=(show Sy nm W2 w.heap.size _ n F _ _ _ p A _ K from HSY).ct
  dsimp only at c0 c1 c2 c3 c4 c5 c6 c7
  go_wp2_with fail
  refine ((show Sy nm W2 w.heap.size _ n F _ _ _ p A _ K from HSY).bare false false true false _ B0).mono ?_
  rintro e w1 ⟨rfl,B1⟩
  clear c0 c1 c2 c3 c4 c5 c6 c7 c8 c9 ct
  obtain ⟨c0,c1,c2,c3,c4,c5,c6,c7,c8,c9⟩:=(show Sy nm W2 w.heap.size _ n F _ _ _ p A _ K from HSY).bx.below B1
  have ct:=(B1.cell (p:=⟨w.heap.size,0,none⟩) (lt_of_cell (show Sy nm W2 w.heap.size _ n F _ _ _ p A _ K from HSY).ct)).trans (show Sy nm W2 w.heap.size _ n F _ _ _ p A _ K from HSY).ct
  dsimp only at c0 c1 c2 c3 c4 c5 c6 c7
  by_cases h1:br ⟨25,f,t,l,o,m,g,x⟩ p false false true false
  ·rw [dc_t h1]
   have HH1:Hid (br ⟨25,f,t,l,o,m,g,x⟩ p false false true false):=h1
   clear h1
   by_cases h2:x.size≤4000
   ·have ft2:=(by omega:(x.size:Int)≤4000)
    have HH2:Hid (x.size≤4000):=h2
    clear h2
    go_wp2_with fail
    go_ret
    exact ⟨by rw [show R = _ from HR,dc_t ⟨(by first | rfl | trivial),HH1,HH2⟩];first | rfl | (simp [*];done),(show ∀ W,Below W2.heap.size W2 W→Below w.heap.size w W from HBL) _ B1⟩
   ·have ft2:=(by omega:¬ (x.size:Int)≤4000)
    have HN9:Hid (¬ (x.size≤4000)):=h2
    clear h2
    go_wp2_with fail
    go_ret
    exact ⟨by rw [show R = _ from HR,dc_f (fun g=>HN9 g.2.2)];first | rfl | (simp [*];done),(show ∀ W,Below W2.heap.size W2 W→Below w.heap.size w W from HBL) _ B1⟩
  ·rw [dc_f h1]
   have HN9:Hid (¬ (br ⟨25,f,t,l,o,m,g,x⟩ p false false true false)):=h1
   clear h1
   go_wp2_with fail
   go_ret
   exact ⟨by rw [show R = _ from HR,dc_f (fun g=>HN9 g.2.1)];first | rfl | (simp [*];done),(show ∀ W,Below W2.heap.size W2 W→Below w.heap.size w W from HBL) _ B1⟩
 ·have e0:((q:Int) == 0)=false:=bne (by omega)
  have HN9:Hid (¬ (q=0)):=hq0
  clear hq0
  go_enter Tryz.func87,Tryz.ntmps87
  unfold fmv
  dsimp only at hW2
  go_wp2_with fail
  go_ret
  exact ⟨by rw [show R = _ from HR,dc_f (fun g=>HN9 g.1)];rfl,bel2 _ _ _⟩
theorem xp_26 {nm : ByteArray → Prop} {w : World} {v : Value} {n : Nat} {F : Nat → Gv} {vn vk : Value} {p : Nat} {A : Nat → ByteArray} {q : Nat} {K : Nat → Int} (s : Sx nm w v n F vn vk p A q K) (a : Fv) (hga : a.g < 18446744073709551616) (hk : a.k = 26) :
  Calls Tryz.prog 87 #[.agg #[v],fmv a vn vk] w fun e w'=>e = .returned (.bool (dc (q=0∧br a p false false true false∧nm a.x)))∧Below w.heap.size w w':=by
 have hs:=s.sy a hga 56 102
 obtain ⟨W2,hW2⟩:∃ W2,W2=(w.alloc (.cells #[v] 56)).alloc (.cells #[.int .i64 a.k,.int .i64 a.f,.int .i64 a.t,.int .i64 a.l,.int .i64 a.o,.int .i64 a.m,.float .f64 a.g,.string a.x,vn,vk] 102):=⟨_,rfl⟩
 rw [← hW2] at hs
 have HBL:Hid (∀ W,Below W2.heap.size W2 W→Below w.heap.size w W):=(fun W hb=>by rw [hW2] at hb;exact (bel2 w _ _).trans (hb.mono (bel2 w _ _).size):∀ W,_)
 have HSY:Hid (Sy nm W2 w.heap.size v n F a vn vk p A q K):=hs
 have hqI:(q:Int)≤1048576:=by have:=s.hq;omega
 obtain ⟨pn,cn,rfl,_⟩:=s.rn
 obtain ⟨pk,ck,rfl,_⟩:=s.rk
 obtain ⟨pf,cf,rfl,_⟩:=s.rf
 have HSQ:Hid (q≤1048576):=s.hq
 obtain ⟨R,hR⟩:∃ R,R=dc (q=0∧br a p false false true false∧nm a.x):=⟨_,rfl⟩
 have HR:Hid (R=dc (q=0∧br a p false false true false∧nm a.x)):=hR
 rw [← hR]
 clear hs s hR hga
 obtain ⟨k,f,t,l,o,m,g,x⟩:=a
 dsimp only at hk
 subst hk
 by_cases hq0:q=0
 ·subst hq0
  go_enter Tryz.func87,Tryz.ntmps87
  unfold fmv
  dsimp only at hW2
  go_wp2_with fail
  rw [← hW2]
  clear hW2
  have B0:Below W2.heap.size W2 W2:=Below.refl _ _
  obtain ⟨c0,c1,c2,c3,c4,c5,c6,c7,c8,c9⟩:=(show Sy nm W2 w.heap.size _ n F _ _ _ p A _ K from HSY).bx
  have ct:=(show Sy nm W2 w.heap.size _ n F _ _ _ p A _ K from HSY).ct
  dsimp only at c0 c1 c2 c3 c4 c5 c6 c7
  go_wp2_with fail
  refine ((show Sy nm W2 w.heap.size _ n F _ _ _ p A _ K from HSY).bare false false true false _ B0).mono ?_
  rintro e w1 ⟨rfl,B1⟩
  clear c0 c1 c2 c3 c4 c5 c6 c7 c8 c9 ct
  obtain ⟨c0,c1,c2,c3,c4,c5,c6,c7,c8,c9⟩:=(show Sy nm W2 w.heap.size _ n F _ _ _ p A _ K from HSY).bx.below B1
  have ct:=(B1.cell (p:=⟨w.heap.size,0,none⟩) (lt_of_cell (show Sy nm W2 w.heap.size _ n F _ _ _ p A _ K from HSY).ct)).trans (show Sy nm W2 w.heap.size _ n F _ _ _ p A _ K from HSY).ct
  dsimp only at c0 c1 c2 c3 c4 c5 c6 c7
  by_cases h1:br ⟨26,f,t,l,o,m,g,x⟩ p false false true false
  ·rw [dc_t h1]
   have HH1:Hid (br ⟨26,f,t,l,o,m,g,x⟩ p false false true false):=h1
   clear h1
   go_wp2_with fail
   refine ((((show Sy nm W2 w.heap.size _ n F _ _ _ p A _ K from HSY).hn x _).mono fun _ _ h=>(⟨h.1,below_to B1 h.2⟩:_∧Below W2.heap.size W2 _))).mono ?_
   rintro e w2 ⟨rfl,B2⟩
   clear c0 c1 c2 c3 c4 c5 c6 c7 c8 c9 ct
   obtain ⟨c0,c1,c2,c3,c4,c5,c6,c7,c8,c9⟩:=(show Sy nm W2 w.heap.size _ n F _ _ _ p A _ K from HSY).bx.below B2
   have ct:=(B2.cell (p:=⟨w.heap.size,0,none⟩) (lt_of_cell (show Sy nm W2 w.heap.size _ n F _ _ _ p A _ K from HSY).ct)).trans (show Sy nm W2 w.heap.size _ n F _ _ _ p A _ K from HSY).ct
   dsimp only at c0 c1 c2 c3 c4 c5 c6 c7
   by_cases h2:nm x
   ·rw [dc_t h2]
    have HH2:Hid (nm x):=h2
    clear h2
    go_wp2_with fail
    go_ret
    exact ⟨by rw [show R = _ from HR,dc_t ⟨(by first | rfl | trivial),HH1,HH2⟩];first | rfl | (simp [*];done),(show ∀ W,Below W2.heap.size W2 W→Below w.heap.size w W from HBL) _ B2⟩
   ·rw [dc_f h2]
    have HN9:Hid (¬ (nm x)):=h2
    clear h2
    go_wp2_with fail
    go_ret
    exact ⟨by rw [show R = _ from HR,dc_f (fun g=>HN9 g.2.2)];first | rfl | (simp [*];done),(show ∀ W,Below W2.heap.size W2 W→Below w.heap.size w W from HBL) _ B2⟩
  ·rw [dc_f h1]
   have HN9:Hid (¬ (br ⟨26,f,t,l,o,m,g,x⟩ p false false true false)):=h1
   clear h1
   go_wp2_with fail
   go_ret
   exact ⟨by rw [show R = _ from HR,dc_f (fun g=>HN9 g.2.1)];first | rfl | (simp [*];done),(show ∀ W,Below W2.heap.size W2 W→Below w.heap.size w W from HBL) _ B1⟩
 ·have e0:((q:Int) == 0)=false:=bne (by omega)
  have HN9:Hid (¬ (q=0)):=hq0
  clear hq0
  go_enter Tryz.func87,Tryz.ntmps87
  unfold fmv
  dsimp only at hW2
  go_wp2_with fail
  go_ret
  exact ⟨by rw [show R = _ from HR,dc_f (fun g=>HN9 g.1)];rfl,bel2 _ _ _⟩
end Go.Proofs.YtomcmnompajnlaaGreatDoor.Fo.Po
