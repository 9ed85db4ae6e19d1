import Derived.Test.YtomcmnompajnlaaGreatDoorBSdd
import Derived.Deep.RegionHeldLaw
set_option maxRecDepth 100000
set_option maxHeartbeats 4000000
namespace Go.Proofs.YtomcmnompajnlaaGreatDoor
open Go.ChangeShapes Go.WideShapes Go.ChangeAt Go.RowKit
set_option linter.unusedVariables false
structure Tr (w:World) (k f t n:Int) (x:ByteArray) (W:World):Prop where
  bel:Below w.heap.size w W
  rz:Rz w.heap.size W
  tb:W.heap[w.heap.size+1]? = some (.cells #[.int .i64 k,.int .i64 f,.int .i64 t,.int .i64 0,.int .i64 n,.string x] 179 (0,0))
section
variable {w W:World} {k f t n:Int} {x:ByteArray}
theorem Tr.start (w:World) (k f t n:Int) (x:ByteArray):Tr w k f t n x ((w.alloc (.cells #[.int .i64 0,.int .i64 0,.int .i64 0,.int .i64 0,.int .i64 0,.string ⟨#[]⟩] 179)).alloc (.cells #[.int .i64 k,.int .i64 f,.int .i64 t,.int .i64 0,.int .i64 n,.string x] 179)):=by
  refine ⟨((Below.refl _ w).alloc (Nat.le_refl _) _).alloc (by simp) _,?_,?_⟩
  · unfold Rz;rw [Below.heap_alloc _ _ _ (by simp)];exact Rz.new w
  · show ((w.heap.push _).push _)[w.heap.size+1]? = _
    rw [Array.getElem?_push,if_pos (by simp)]
theorem Tr.size (h:Tr w k f t n x W):w.heap.size+1 < W.heap.size:=(Array.getElem?_eq_some_iff.1 h.tb).1
theorem Tr.c0 (h:Tr w k f t n x W):W.cell? ⟨w.heap.size+1,0,none⟩=some (.int .i64 k):=by simp [World.cell?,h.tb]
theorem Tr.c1 (h:Tr w k f t n x W):W.cell? ⟨w.heap.size+1,1,none⟩=some (.int .i64 f):=by simp [World.cell?,h.tb]
theorem Tr.c2 (h:Tr w k f t n x W):W.cell? ⟨w.heap.size+1,2,none⟩=some (.int .i64 t):=by simp [World.cell?,h.tb]
theorem Tr.c3 (h:Tr w k f t n x W):W.cell? ⟨w.heap.size+1,3,none⟩=some (.int .i64 0):=by simp [World.cell?,h.tb]
theorem Tr.c4 (h:Tr w k f t n x W):W.cell? ⟨w.heap.size+1,4,none⟩=some (.int .i64 n):=by simp [World.cell?,h.tb]
theorem Tr.c5 (h:Tr w k f t n x W):W.cell? ⟨w.heap.size+1,5,none⟩=some (.string x):=by simp [World.cell?,h.tb]
theorem Tr.fz (h:Tr w k f t n x W) (j:Nat):W.frozen? ⟨w.heap.size+1,j,none⟩=false:=by simp [World.frozen?,h.tb]
theorem Tr.setx (h:Tr w k f t n x W) (j:Nat) (v:Value):Below w.heap.size w (W.setCell ⟨w.heap.size+1,j,none⟩ v)∧Rz w.heap.size (W.setCell ⟨w.heap.size+1,j,none⟩ v) :=
  ⟨h.bel.setCell (Nat.le_succ _) _,by unfold Rz;rw [Below.heap_setCell _ _ _ _ (show w.heap.size ≠ w.heap.size+1 by omega)];exact h.rz⟩
theorem Tr.set0 (h:Tr w k f t n x W) (y:Int):Tr w y f t n x (W.setCell ⟨w.heap.size+1,0,none⟩ (.int .i64 y)):=⟨(h.setx _ _).1,(h.setx _ _).2,by simp [World.setCell,Array.getElem?_modify,h.tb]⟩
theorem Tr.set2 (h:Tr w k f t n x W) (y:Int):Tr w k f y n x (W.setCell ⟨w.heap.size+1,2,none⟩ (.int .i64 y)):=⟨(h.setx _ _).1,(h.setx _ _).2,by simp [World.setCell,Array.getElem?_modify,h.tb]⟩
theorem Tr.below {W':World} (h:Tr w k f t n x W) (hb:Below W.heap.size W W'):Tr w k f t n x W':=by
  have hs:=h.size
  refine ⟨h.bel.trans (hb.mono (by omega)),?_,?_⟩
  · unfold Rz;rw [hb.block _ (by omega)];exact h.rz
  · rw [hb.block _ hs];exact h.tb
end
theorem read_word (T : ByteArray) (L : List UInt8) (hT : T.data.toList = L) (hlen : L.length ≤ 65536) (p : Nat) (hp : p < L.length) (h10 : lk L p ≠ 10) (hL : isL (lk L p) = true) {kd : Int} {tn : Nat} {nu : Int} {tx : ByteArray} (hsub : ∀ W, Calls Tryz.prog 143 #[.string T, tokV 0 p 0 0 0 ⟨#[]⟩] W (NumP W kd p tn nu tx)) (w : World) :
    Calls Tryz.prog 130 #[.string T,.int .i64 (p:Int)] w (NumP w kd p tn nu tx):=by
  have hs:T.size=L.length:=by rw [← hT];simp
  obtain ⟨M,hM,hLM⟩:∃ M:Int,M≤65536∧(L.length:Int)≤M:=⟨L.length,by omega,Int.le_refl _⟩
  have hpM:(p:Int) < M:=by omega
  have hix:=ix T L hT p _ (lk_at hp)
  obtain ⟨W,hWe,hts⟩:∃ W,W=(w.alloc (.cells #[.int .i64 0,.int .i64 0,.int .i64 0,.int .i64 0,.int .i64 0,.string ⟨#[]⟩] 179)).alloc (.cells #[.int .i64 0,.int .i64 p,.int .i64 0,.int .i64 0,.int .i64 0,.string ⟨#[]⟩] 179)∧Tr w 0 p 0 0 ⟨#[]⟩ W:=⟨_,rfl,Tr.start w 0 p 0 0 ⟨#[]⟩⟩
  have HTS:Hid (Tr w 0 p 0 0 ⟨#[]⟩ W):=hts
  have n10:(((lk L p).toNat:Int) == 10)=false:=by simp;intro g;exact h10 (UInt8.toNat_inj.1 (show (lk L p).toNat=10 by omega))
  have hlet:=spec_isL (lk L p)
  rw [hL] at hlet
  generalize ((lk L p).toNat:Int)=xp at *
  have hhx:=hsub W
  unfold tokV at hhx
  clear hT hlen hts hsub
  go_enter Tryz.func130,Tryz.ntmps130
  go_upto_region 3 with fail
  rw [← hWe]
  clear hWe
  go_wp2_with fail
  refine (hlet _).mono ?_
  rintro e w1 ⟨rfl,hw1⟩
  rw [hw1]
  clear hlet hw1
  go_upto_region 8 with fail
  rename_i Kr hKr
  have HKR:Hid (∀ (a:Act) (w1:World),bodyPost Tryz.prog Tryz.f130 (NumP w kd p tn nu tx) Exit.ret a w1→Kr a w1):=(fun a w1 h=>hKr a w1 (wp_ret h):∀ (a:Act) (w1:World),bodyPost Tryz.prog Tryz.f130 (NumP w kd p tn nu tx) Exit.ret a w1→Kr a w1)
  go_light
  have hc0:=HTS.c0
  have hc1:=HTS.c1
  have hc2:=HTS.c2
  have hc3:=HTS.c3
  have hc4:=HTS.c4
  have hc5:=HTS.c5
  go_wp2_with fail
  refine hhx.mono ?_
  rintro e w2 ⟨hb2,hy,hz⟩
  have hT2:=(show Tr w 0 p 0 0 ⟨#[]⟩ W from HTS).below hb2
  have z3:=hT2.rz
  have g0:=z3.c0
  have g1:=z3.c1
  have g2:=z3.c2
  have g3:=z3.c3
  have g4:=z3.c4
  have g5:=z3.c5
  have v0:=z3.f0
  have v1:=z3.f1
  have v2:=z3.f2
  have v3:=z3.f3
  have v4:=z3.f4
  have v5:=z3.f5
  have e0:=st6_c0 z3
  have e1:=st6_c1 z3
  have e2:=st6_c2 z3
  have e3:=st6_c3 z3
  have e4:=st6_c4 z3
  have e5:=st6_c5 z3
  have HBL:Hid (Below w.heap.size w w2):=hT2.bel
  clear hhx hT2 z3 hc0 hc1 hc2 hc3 hc4 hc5 HTS hb2
  by_cases hk0:kd=0
  · obtain ⟨a,b,c,d,m,t,he⟩:=hz hk0
    subst he
    have HK0:Hid (kd=0):=hk0
    clear hy hz hk0
    unfold tokV
    go_wp2_with fail
    refine (show ∀ (a:Act) (w1:World),bodyPost Tryz.prog Tryz.f130 (NumP w kd p tn nu tx) Exit.ret a w1→Kr a w1 from HKR) _ _ (bodyPost_ret (by simp [results,Tryz.results130,go_sem,e0,e1,e2,e3,e4,e5];rfl) rfl ?_)
    refine ⟨st6_bel HBL (Nat.le_refl _) _ _ _ _ _ _,fun g=>(g HK0).elim,fun _=>⟨_,_,_,_,_,_,rfl⟩⟩
  · have he:=hy hk0
    subst he
    have HK0:Hid (kd ≠ 0):=hk0
    clear hy hz hk0
    unfold tokV
    go_wp2_with fail
    refine (show ∀ (a:Act) (w1:World),bodyPost Tryz.prog Tryz.f130 (NumP w kd p tn nu tx) Exit.ret a w1→Kr a w1 from HKR) _ _ (bodyPost_ret (by simp [results,Tryz.results130,go_sem,e0,e1,e2,e3,e4,e5];rfl) rfl ?_)
    refine ⟨st6_bel HBL (Nat.le_refl _) _ _ _ _ _ _,fun _=>rfl,fun g=>(HK0 g).elim⟩
theorem readn (T : ByteArray) (L : List UInt8) (hT : T.data.toList = L) (hlen : L.length ≤ 65536) (p : Nat) (hp : p < L.length) (h10 : lk L p ≠ 10) (hL : isL (lk L p) = false) (hD : isD (lk L p) = true) {kd : Int} {tn : Nat} {nu : Int} {tx : ByteArray} (hsub : ∀ W, Calls Tryz.prog 144 #[.string T, tokV 0 p 0 0 0 ⟨#[]⟩] W (NumP W kd p tn nu tx)) (w : World) :
    Calls Tryz.prog 130 #[.string T,.int .i64 (p:Int)] w (NumP w kd p tn nu tx):=by
  have hs:T.size=L.length:=by rw [← hT];simp
  obtain ⟨M,hM,hLM⟩:∃ M:Int,M≤65536∧(L.length:Int)≤M:=⟨L.length,by omega,Int.le_refl _⟩
  have hpM:(p:Int) < M:=by omega
  have hix:=ix T L hT p _ (lk_at hp)
  obtain ⟨W,hWe,hts⟩:∃ W,W=(w.alloc (.cells #[.int .i64 0,.int .i64 0,.int .i64 0,.int .i64 0,.int .i64 0,.string ⟨#[]⟩] 179)).alloc (.cells #[.int .i64 0,.int .i64 p,.int .i64 0,.int .i64 0,.int .i64 0,.string ⟨#[]⟩] 179)∧Tr w 0 p 0 0 ⟨#[]⟩ W:=⟨_,rfl,Tr.start w 0 p 0 0 ⟨#[]⟩⟩
  have HTS:Hid (Tr w 0 p 0 0 ⟨#[]⟩ W):=hts
  have n10:(((lk L p).toNat:Int) == 10)=false:=by simp;intro g;exact h10 (UInt8.toNat_inj.1 (show (lk L p).toNat=10 by omega))
  have hlet:=spec_isL (lk L p)
  rw [hL] at hlet
  have hdig:=spec_isD (lk L p)
  rw [hD] at hdig
  generalize ((lk L p).toNat:Int)=xp at *
  have hhx:=hsub W
  unfold tokV at hhx
  clear hT hlen hts hsub
  go_enter Tryz.func130,Tryz.ntmps130
  go_upto_region 3 with fail
  rw [← hWe]
  clear hWe
  go_wp2_with fail
  refine (hlet _).mono ?_
  rintro e w1 ⟨rfl,hw1⟩
  rw [hw1]
  clear hlet hw1
  go_wp2_with fail
  refine (hdig _).mono ?_
  rintro e w1 ⟨rfl,hw1⟩
  rw [hw1]
  clear hdig hw1
  go_upto_region 10 with fail
  rename_i Kr hKr
  have HKR:Hid (∀ (a:Act) (w1:World),bodyPost Tryz.prog Tryz.f130 (NumP w kd p tn nu tx) Exit.ret a w1→Kr a w1):=(fun a w1 h=>hKr a w1 (wp_ret h):∀ (a:Act) (w1:World),bodyPost Tryz.prog Tryz.f130 (NumP w kd p tn nu tx) Exit.ret a w1→Kr a w1)
  go_light
  have hc0:=HTS.c0
  have hc1:=HTS.c1
  have hc2:=HTS.c2
  have hc3:=HTS.c3
  have hc4:=HTS.c4
  have hc5:=HTS.c5
  go_wp2_with fail
  refine hhx.mono ?_
  rintro e w2 ⟨hb2,hy,hz⟩
  have hT2:=(show Tr w 0 p 0 0 ⟨#[]⟩ W from HTS).below hb2
  have z3:=hT2.rz
  have g0:=z3.c0
  have g1:=z3.c1
  have g2:=z3.c2
  have g3:=z3.c3
  have g4:=z3.c4
  have g5:=z3.c5
  have v0:=z3.f0
  have v1:=z3.f1
  have v2:=z3.f2
  have v3:=z3.f3
  have v4:=z3.f4
  have v5:=z3.f5
  have e0:=st6_c0 z3
  have e1:=st6_c1 z3
  have e2:=st6_c2 z3
  have e3:=st6_c3 z3
  have e4:=st6_c4 z3
  have e5:=st6_c5 z3
  have HBL:Hid (Below w.heap.size w w2):=hT2.bel
  clear hhx hT2 z3 hc0 hc1 hc2 hc3 hc4 hc5 HTS hb2
  by_cases hk0:kd=0
  · obtain ⟨a,b,c,d,m,t,he⟩:=hz hk0
    subst he
    have HK0:Hid (kd=0):=hk0
    clear hy hz hk0
    unfold tokV
    go_wp2_with fail
    refine (show ∀ (a:Act) (w1:World),bodyPost Tryz.prog Tryz.f130 (NumP w kd p tn nu tx) Exit.ret a w1→Kr a w1 from HKR) _ _ (bodyPost_ret (by simp [results,Tryz.results130,go_sem,e0,e1,e2,e3,e4,e5];rfl) rfl ?_)
    refine ⟨st6_bel HBL (Nat.le_refl _) _ _ _ _ _ _,fun g=>(g HK0).elim,fun _=>⟨_,_,_,_,_,_,rfl⟩⟩
  · have he:=hy hk0
    subst he
    have HK0:Hid (kd ≠ 0):=hk0
    clear hy hz hk0
    unfold tokV
    go_wp2_with fail
    refine (show ∀ (a:Act) (w1:World),bodyPost Tryz.prog Tryz.f130 (NumP w kd p tn nu tx) Exit.ret a w1→Kr a w1 from HKR) _ _ (bodyPost_ret (by simp [results,Tryz.results130,go_sem,e0,e1,e2,e3,e4,e5];rfl) rfl ?_)
    refine ⟨st6_bel HBL (Nat.le_refl _) _ _ _ _ _ _,fun _=>rfl,fun g=>(HK0 g).elim⟩
theorem read_str (T : ByteArray) (L : List UInt8) (hT : T.data.toList = L) (hlen : L.length ≤ 65536) (p : Nat) (hp : p < L.length) (hL : isL (lk L p) = false) (hD : isD (lk L p) = false) (h34 : lk L p = 34) {kd : Int} {tn : Nat} {nu : Int} {tx : ByteArray} (hsub : ∀ W, Calls Tryz.prog 145 #[.string T, tokV 0 p 0 0 0 ⟨#[]⟩] W (NumP W kd p tn nu tx)) (w : World) :
    Calls Tryz.prog 130 #[.string T,.int .i64 (p:Int)] w (NumP w kd p tn nu tx):=by
  have hs:T.size=L.length:=by rw [← hT];simp
  obtain ⟨M,hM,hLM⟩:∃ M:Int,M≤65536∧(L.length:Int)≤M:=⟨L.length,by omega,Int.le_refl _⟩
  have hpM:(p:Int) < M:=by omega
  have hix:=ix T L hT p _ (lk_at hp)
  obtain ⟨W,hWe,hts⟩:∃ W,W=(w.alloc (.cells #[.int .i64 0,.int .i64 0,.int .i64 0,.int .i64 0,.int .i64 0,.string ⟨#[]⟩] 179)).alloc (.cells #[.int .i64 0,.int .i64 p,.int .i64 0,.int .i64 0,.int .i64 0,.string ⟨#[]⟩] 179)∧Tr w 0 p 0 0 ⟨#[]⟩ W:=⟨_,rfl,Tr.start w 0 p 0 0 ⟨#[]⟩⟩
  have HTS:Hid (Tr w 0 p 0 0 ⟨#[]⟩ W):=hts
  rw [h34] at hix
  have hlet:=spec_isL (lk L p)
  rw [hL,h34] at hlet
  have hdig:=spec_isD (lk L p)
  rw [hD,h34] at hdig
  have hhx:=hsub W
  unfold tokV at hhx
  clear hT hlen hts hsub
  go_enter Tryz.func130,Tryz.ntmps130
  go_upto_region 3 with fail
  rw [← hWe]
  clear hWe
  go_wp2_with fail
  refine (hlet _).mono ?_
  rintro e w1 ⟨rfl,hw1⟩
  rw [hw1]
  clear hlet hw1
  go_wp2_with fail
  refine (hdig _).mono ?_
  rintro e w1 ⟨rfl,hw1⟩
  rw [hw1]
  clear hdig hw1
  go_upto_region 12 with fail
  rename_i Kr hKr
  have HKR:Hid (∀ (a:Act) (w1:World),bodyPost Tryz.prog Tryz.f130 (NumP w kd p tn nu tx) Exit.ret a w1→Kr a w1):=(fun a w1 h=>hKr a w1 (wp_ret h):∀ (a:Act) (w1:World),bodyPost Tryz.prog Tryz.f130 (NumP w kd p tn nu tx) Exit.ret a w1→Kr a w1)
  go_light
  have hc0:=HTS.c0
  have hc1:=HTS.c1
  have hc2:=HTS.c2
  have hc3:=HTS.c3
  have hc4:=HTS.c4
  have hc5:=HTS.c5
  go_wp2_with fail
  refine hhx.mono ?_
  rintro e w2 ⟨hb2,hy,hz⟩
  have hT2:=(show Tr w 0 p 0 0 ⟨#[]⟩ W from HTS).below hb2
  have z3:=hT2.rz
  have g0:=z3.c0
  have g1:=z3.c1
  have g2:=z3.c2
  have g3:=z3.c3
  have g4:=z3.c4
  have g5:=z3.c5
  have v0:=z3.f0
  have v1:=z3.f1
  have v2:=z3.f2
  have v3:=z3.f3
  have v4:=z3.f4
  have v5:=z3.f5
  have e0:=st6_c0 z3
  have e1:=st6_c1 z3
  have e2:=st6_c2 z3
  have e3:=st6_c3 z3
  have e4:=st6_c4 z3
  have e5:=st6_c5 z3
  have HBL:Hid (Below w.heap.size w w2):=hT2.bel
  clear hhx hT2 z3 hc0 hc1 hc2 hc3 hc4 hc5 HTS hb2
  by_cases hk0:kd=0
  · obtain ⟨a,b,c,d,m,t,he⟩:=hz hk0
    subst he
    have HK0:Hid (kd=0):=hk0
    clear hy hz hk0
    unfold tokV
    go_wp2_with fail
    refine (show ∀ (a:Act) (w1:World),bodyPost Tryz.prog Tryz.f130 (NumP w kd p tn nu tx) Exit.ret a w1→Kr a w1 from HKR) _ _ (bodyPost_ret (by simp [results,Tryz.results130,go_sem,e0,e1,e2,e3,e4,e5];rfl) rfl ?_)
    refine ⟨st6_bel HBL (Nat.le_refl _) _ _ _ _ _ _,fun g=>(g HK0).elim,fun _=>⟨_,_,_,_,_,_,rfl⟩⟩
  · have he:=hy hk0
    subst he
    have HK0:Hid (kd ≠ 0):=hk0
    clear hy hz hk0
    unfold tokV
    go_wp2_with fail
    refine (show ∀ (a:Act) (w1:World),bodyPost Tryz.prog Tryz.f130 (NumP w kd p tn nu tx) Exit.ret a w1→Kr a w1 from HKR) _ _ (bodyPost_ret (by simp [results,Tryz.results130,go_sem,e0,e1,e2,e3,e4,e5];rfl) rfl ?_)
    refine ⟨st6_bel HBL (Nat.le_refl _) _ _ _ _ _ _,fun _=>rfl,fun g=>(HK0 g).elim⟩
theorem read_nl (T : ByteArray) (L : List UInt8) (hT : T.data.toList = L) (hlen : L.length ≤ 65536) (p : Nat) (hp : p < L.length) (h10 : lk L p = 10) {kd : Int} {tn : Nat} {nu : Int} {tx : ByteArray} (hkd : kd = 7 ∧ tn = p + 1 ∧ nu = 0 ∧ tx = ⟨#[]⟩) (w : World) :
    Calls Tryz.prog 130 #[.string T,.int .i64 (p:Int)] w (NumP w kd p tn nu tx):=by
  have hs:T.size=L.length:=by rw [← hT];simp
  obtain ⟨M,hM,hLM⟩:∃ M:Int,M≤65536∧(L.length:Int)≤M:=⟨L.length,by omega,Int.le_refl _⟩
  have hpM:(p:Int) < M:=by omega
  have hix:=ix T L hT p _ (lk_at hp)
  obtain ⟨W,hWe,hts⟩:∃ W,W=(w.alloc (.cells #[.int .i64 0,.int .i64 0,.int .i64 0,.int .i64 0,.int .i64 0,.string ⟨#[]⟩] 179)).alloc (.cells #[.int .i64 0,.int .i64 p,.int .i64 0,.int .i64 0,.int .i64 0,.string ⟨#[]⟩] 179)∧Tr w 0 p 0 0 ⟨#[]⟩ W:=⟨_,rfl,Tr.start w 0 p 0 0 ⟨#[]⟩⟩
  have HTS:Hid (Tr w 0 p 0 0 ⟨#[]⟩ W):=hts
  rw [h10] at hix
  have HK:Hid (kd=7∧tn=p+1∧nu=0∧tx=⟨#[]⟩):=hkd
  have c0:=hts.c0
  have f0:=hts.fz 0
  have h2:=hts.set0 7
  have c2:=h2.c2
  have f2:=h2.fz 2
  obtain ⟨W6,hW6,HT6⟩:∃ W6,W6=(W.setCell ⟨w.heap.size+1,0,none⟩ (.int .i64 7)).setCell ⟨w.heap.size+1,2,none⟩ (.int .i64 ((p:Int)+1))∧Hid (Tr w 7 p ((p:Int)+1) 0 ⟨#[]⟩ W6):=⟨_,rfl,h2.set2 _⟩
  clear hT hlen hts h10 hkd h2 HTS
  go_enter Tryz.func130,Tryz.ntmps130
  go_upto_region 3 with fail
  rw [← hWe]
  clear hWe
  go_upto_region 6 with fail
  rename_i Kr hKr
  have HKR:Hid (∀ (a:Act) (w1:World),bodyPost Tryz.prog Tryz.f130 (NumP w kd p tn nu tx) Exit.ret a w1→Kr a w1):=(fun a w1 h=>hKr a w1 (wp_ret h):∀ (a:Act) (w1:World),bodyPost Tryz.prog Tryz.f130 (NumP w kd p tn nu tx) Exit.ret a w1→Kr a w1)
  go_light
  rw [← hW6]
  clear hW6 c0 c2 f0 f2
  have h6:=(show Tr w 7 p ((p:Int)+1) 0 ⟨#[]⟩ W6 from HT6)
  have hc0:=h6.c0
  have hc1:=h6.c1
  have hc2:=h6.c2
  have hc3:=h6.c3
  have hc4:=h6.c4
  have hc5:=h6.c5
  have z3:=h6.rz
  have g0:=z3.c0
  have g1:=z3.c1
  have g2:=z3.c2
  have g3:=z3.c3
  have g4:=z3.c4
  have g5:=z3.c5
  have v0:=z3.f0
  have v1:=z3.f1
  have v2:=z3.f2
  have v3:=z3.f3
  have v4:=z3.f4
  have v5:=z3.f5
  have e0:=st6_c0 z3
  have e1:=st6_c1 z3
  have e2:=st6_c2 z3
  have e3:=st6_c3 z3
  have e4:=st6_c4 z3
  have e5:=st6_c5 z3
  have HBL:Hid (Below w.heap.size w _):=h6.bel
  clear h6 z3
  go_wp2_with fail
  refine (show ∀ (a:Act) (w1:World),bodyPost Tryz.prog Tryz.f130 (NumP w kd p tn nu tx) Exit.ret a w1→Kr a w1 from HKR) _ _ (bodyPost_ret (by simp [results,Tryz.results130,go_sem,e0,e1,e2,e3,e4,e5];rfl) rfl ?_)
  obtain ⟨k1,k2,k3,k4⟩:=(show kd=7∧tn=p+1∧nu=0∧tx=⟨#[]⟩ from HK)
  subst k1 k2 k3 k4
  exact ⟨st6_bel HBL (Nat.le_refl _) _ _ _ _ _ _,fun _=>rfl,fun g=>absurd g (by decide)⟩
theorem sgn_cell (W:World) (i:Nat) (hi:i < 30):(W.alloc (.cells sgnA 9)).cell? ⟨W.heap.size,i,none⟩=some (.string (sgnB i)):=by
  have:=sgn_get i hi
  simp [this]
theorem sgn_siz (i:Nat):(sgnB i).size=(sgnL.getD i []).length:=by
  rw [← sgn_list i];simp
theorem sgn_le3 {i:Nat} (hi:i < 30):(sgnL.getD i []).length≤3:=(sgn_same ⟨i,hi⟩).2.2.2
theorem sgn_pos {i:Nat} (hi:i < 30) : 0 < (sgnL.getD i []).length:=(sgn_same ⟨i,hi⟩).2.2.1
theorem read_sign (T : ByteArray) (L : List UInt8) (hT : T.data.toList = L) (hlen : L.length ≤ 65536) (p : Nat) (hp : p < L.length) (h10 : lk L p ≠ 10) (hL : isL (lk L p) = false) (hD : isD (lk L p) = false) (h34 : lk L p ≠ 34) {m : Nat} (hm : Sm (L.drop p) m) {kd : Int} {tn : Nat} {nu : Int} {tx : ByteArray} (hkd : (m < 30 ∧ kd = ssv (sgnL.getD m []) ∧ tn = p + (sgnL.getD m []).length ∨ ¬ m < 30 ∧ kd = 0 ∧ tn = p) ∧ nu = 0 ∧ tx = ⟨#[]⟩) (w : World) :
    Calls Tryz.prog 130 #[.string T,.int .i64 (p:Int)] w (NumP w kd p tn nu tx):=by
  have hs:T.size=L.length:=by rw [← hT];simp
  obtain ⟨M,hM,hLM⟩:∃ M:Int,M≤65536∧(L.length:Int)≤M:=⟨L.length,by omega,Int.le_refl _⟩
  have hpM:(p:Int) < M:=by omega
  have hix:=ix T L hT p _ (lk_at hp)
  obtain ⟨W,hWe,hts⟩:∃ W,W=(w.alloc (.cells #[.int .i64 0,.int .i64 0,.int .i64 0,.int .i64 0,.int .i64 0,.string ⟨#[]⟩] 179)).alloc (.cells #[.int .i64 0,.int .i64 p,.int .i64 0,.int .i64 0,.int .i64 0,.string ⟨#[]⟩] 179)∧Tr w 0 p 0 0 ⟨#[]⟩ W:=⟨_,rfl,Tr.start w 0 p 0 0 ⟨#[]⟩⟩
  have HTS:Hid (Tr w 0 p 0 0 ⟨#[]⟩ W):=hts
  have n10:(((lk L p).toNat:Int) == 10)=false:=by simp;intro g;exact h10 (UInt8.toNat_inj.1 (show (lk L p).toNat=10 by omega))
  have n34:(((lk L p).toNat:Int) == 34)=false:=by simp;intro g;exact h34 (UInt8.toNat_inj.1 (show (lk L p).toNat=34 by omega))
  have hlet:=spec_isL (lk L p)
  rw [hL] at hlet
  have hdig:=spec_isD (lk L p)
  rw [hD] at hdig
  generalize ((lk L p).toNat:Int)=xp at *
  have HK:Hid ((m < 30∧kd=ssv (sgnL.getD m [])∧tn=p+(sgnL.getD m []).length∨¬ m < 30∧kd=0∧tn=p)∧nu=0∧tx=⟨#[]⟩):=hkd
  have HSG:=spec_signs W
  obtain ⟨W1,hW1,HT1,HC1⟩:∃ W1,W1=W.alloc (.cells sgnA 9)∧Hid (Tr w 0 p 0 0 ⟨#[]⟩ W1)∧Hid (∀ i,i < 30→W1.cell? ⟨W.heap.size,i,none⟩=some (.string (sgnB i))) :=
    ⟨_,rfl,hts.below ((Below.refl _ W).alloc (Nat.le_refl _) _),(fun i hi=>sgn_cell W i hi:∀ i,i < 30→_)⟩
  have hdrop:∀ X:ByteArray,p+X.size≤L.length→((T.extract p (p+X.size)).toList == X.toList)=((L.drop p).take X.size == X.data.toList):=by
    intro X hX
    rw [cmp_list,ext_list,hT,Nat.add_sub_cancel_left]
  obtain ⟨hm30,hneq,hlast⟩:=hm
  have HNQ:Hid (∀ i,i < m→(L.length - p < (sgnB i).size)∨(p+(sgnB i).size≤L.length∧((T.extract p (p+(sgnB i).size)).toList == (sgnB i).toList)=false)):=(fun i hi=>by
    rcases Nat.lt_or_ge (L.length - p) (sgnB i).size with g | g
    · exact .inl g
    · refine .inr ⟨by omega,?_⟩
      rw [hdrop _ (by omega),sgn_siz,sgn_list]
      exact hneq i hi:∀ i,i < m→(L.length - p < (sgnB i).size)∨(p+(sgnB i).size≤L.length∧((T.extract p (p+(sgnB i).size)).toList == (sgnB i).toList)=false))
  have HLA:Hid (m=30∨(m < 30∧p+(sgnB m).size≤L.length∧((T.extract p (p+(sgnB m).size)).toList == (sgnB m).toList)=true)):=by
    show m=30∨_
    by_cases e:m=30
    · exact .inl e
    · right
      have h:=hlast.resolve_left e
      have hle:(sgnL.getD m []).length≤L.length - p:=by
        have:=congrArg List.length (eq_of_beq h)
        rw [List.length_take,List.length_drop] at this
        omega
      rw [← sgn_siz] at hle
      refine ⟨by omega,by omega,?_⟩
      rw [hdrop _ (by omega),sgn_siz,sgn_list]
      exact h
  have HTT:Hid (T.size=L.length):=hs
  clear hT hlen hts h10 h34 hkd hneq hlast hdrop HTS hL hD
  go_enter Tryz.func130,Tryz.ntmps130
  go_upto_region 3 with fail
  rw [← hWe]
  clear hWe
  go_wp2_with fail
  refine (hlet _).mono ?_
  rintro e w1 ⟨rfl,hw1⟩
  rw [hw1]
  clear hlet hw1
  go_wp2_with fail
  refine (hdig _).mono ?_
  rintro e w1 ⟨rfl,hw1⟩
  rw [hw1]
  clear hdig hw1
  go_wp2_with fail
  refine HSG.mono ?_
  rintro e w1 ⟨rfl,hw1⟩
  rw [hw1,← hW1]
  clear HSG hw1 hW1 hix n10 n34
  go_wp2_with fail
  go_loop [45] (fun a=>∃ i:Nat,a = .int .i64 (i:Int)∧i≤m) (fun a=>30 - (intOf a).toNat)
  case atStart=>exact ⟨0,rfl,Nat.zero_le _⟩
  case round =>
    obtain ⟨i,rfl,him⟩:=hrel
    by_cases hi:i < m
    · have hi30:(i:Int) < 30:=by omega
      have hcell:=(show ∀ i,i < 30→W1.cell? ⟨W.heap.size,i,none⟩=some (.string (sgnB i)) from HC1) i (by omega)
      rcases (show ∀ i,i < m→_ from HNQ) i hi with g | ⟨g1,g2⟩
      · have hge:¬ ((sgnB i).size:Int)≤(L.length:Int) - (p:Int):=by omega
        clear HNQ HLA HK HT1 HC1 g
        generalize sgnB i=X at *
        go_wp2_with fail
        go_round
        case rel=>exact ⟨i+1,by go_num,by omega⟩
        case measure=>simp [intOf];omega
      · have hge:((sgnB i).size:Int)≤(L.length:Int) - (p:Int):=by omega
        have hsl:∀ W:World,(Instr.slice 9 (.string T) (some (.int .i64 (p:Int))) (some (.int .i64 ((p:Int)+((sgnB i).size:Int)))) none).run Tryz.prog W = .ok (.string (T.extract p (p+(sgnB i).size))) W:=by
          intro W
          rw [run_slice_string (P:=Tryz.prog) W 9 T .i64 .i64 (p:Int) ((p:Int)+((sgnB i).size:Int)) Tryz.underlying9 (by omega) (by omega) (by omega)]
          have:((p:Int)+((sgnB i).size:Int)).toNat=p+(sgnB i).size:=by omega
          simp [this]
        have hX3:((sgnB i).size:Int)≤3:=by rw [sgn_siz];have:=sgn_le3 (show i < 30 by omega);omega
        clear HNQ HLA HK HT1 HC1 g1
        generalize T.extract p (p+(sgnB i).size)=S at *
        generalize sgnB i=X at *
        go_wp2_with fail
        go_round
        case rel=>exact ⟨i+1,by go_num,by omega⟩
        case measure=>simp [intOf];omega
    · obtain rfl:i=m:=by omega
      rcases (show i=30∨(i < 30∧p+(sgnB i).size≤L.length∧((T.extract p (p+(sgnB i).size)).toList == (sgnB i).toList)=true) from HLA) with e30 | ⟨l30,g1,g2⟩
      · subst e30
        have HK2:Hid (kd=0∧tn=p):=by
          rcases HK.1 with ⟨k1,_⟩ | ⟨_,k2,k3⟩
          · exact absurd k1 (by decide)
          · exact ⟨k2,k3⟩
        clear HNQ HLA HC1 HK
        go_upto_region 21 with fail
        rename_i Kr hKr
        have HKR:Hid (∀ (a:Act) (w1:World),bodyPost Tryz.prog Tryz.f130 (NumP w kd p tn nu tx) Exit.ret a w1→Kr a w1):=(fun a w1 h=>hKr a w1 (wp_ret h):∀ (a:Act) (w1:World),bodyPost Tryz.prog Tryz.f130 (NumP w kd p tn nu tx) Exit.ret a w1→Kr a w1)
        go_light
        have h6:=(show Tr w 0 p 0 0 ⟨#[]⟩ W1 from HT1)
        have hc0:=h6.c0
        have hc1:=h6.c1
        have hc2:=h6.c2
        have hc3:=h6.c3
        have hc4:=h6.c4
        have hc5:=h6.c5
        have z3:=h6.rz
        have g0:=z3.c0
        have g1:=z3.c1
        have g2:=z3.c2
        have g3:=z3.c3
        have g4:=z3.c4
        have g5:=z3.c5
        have v0:=z3.f0
        have v1:=z3.f1
        have v2:=z3.f2
        have v3:=z3.f3
        have v4:=z3.f4
        have v5:=z3.f5
        have e0:=st6_c0 z3
        have e1:=st6_c1 z3
        have e2:=st6_c2 z3
        have e3:=st6_c3 z3
        have e4:=st6_c4 z3
        have e5:=st6_c5 z3
        have HBL:Hid (Below w.heap.size w _):=h6.bel
        clear h6 z3
        go_wp2_with fail
        refine (show ∀ (a:Act) (w1:World),bodyPost Tryz.prog Tryz.f130 (NumP w kd p tn nu tx) Exit.ret a w1→Kr a w1 from HKR) _ _ (bodyPost_ret (by simp [results,Tryz.results130,go_sem,e0,e1,e2,e3,e4,e5];rfl) rfl ?_)
        exact ⟨st6_bel HBL (Nat.le_refl _) _ _ _ _ _ _,fun g=>(g HK2.1).elim,fun _=>⟨_,_,_,_,_,_,by rw [show tn=p from HK2.2];rfl⟩⟩
      · have hi30:(i:Int) < 30:=by omega
        have hcell:=(show ∀ i,i < 30→W1.cell? ⟨W.heap.size,i,none⟩=some (.string (sgnB i)) from HC1) i l30
        have hge:((sgnB i).size:Int)≤(L.length:Int) - (p:Int):=by omega
        have hsl:∀ W:World,(Instr.slice 9 (.string T) (some (.int .i64 (p:Int))) (some (.int .i64 ((p:Int)+((sgnB i).size:Int)))) none).run Tryz.prog W = .ok (.string (T.extract p (p+(sgnB i).size))) W:=by
          intro W
          rw [run_slice_string (P:=Tryz.prog) W 9 T .i64 .i64 (p:Int) ((p:Int)+((sgnB i).size:Int)) Tryz.underlying9 (by omega) (by omega) (by omega)]
          have:((p:Int)+((sgnB i).size:Int)).toNat=p+(sgnB i).size:=by omega
          simp [this]
        have hX3:((sgnB i).size:Int)≤3:=by rw [sgn_siz];have:=sgn_le3 l30;omega
        have hsr:=spec_sign_run (sgnB i) W1
        obtain ⟨sk,hsk⟩:∃ sk,ssv (sgnB i).data.toList=sk:=⟨_,rfl⟩
        rw [hsk] at hsr
        have HK2:Hid (kd=sk∧(tn:Int)=(p:Int)+((sgnB i).size:Int)∧kd ≠ 0∧nu=0∧tx=⟨#[]⟩):=by
          rcases HK.1 with ⟨_,k2,k3⟩ | ⟨k1,_⟩
          · exact ⟨by rw [← hsk,sgn_list];exact k2,by rw [sgn_siz];omega,by rw [k2];exact (sgn_same ⟨i,l30⟩).2.1,HK.2⟩
          · exact absurd l30 k1
        clear HNQ HLA HC1 HK g1 hsk
        generalize T.extract p (p+(sgnB i).size)=S at *
        generalize sgnB i=X at *
        go_wp2_with fail
        refine hsr.mono ?_
        rintro e w2 ⟨rfl,hb2⟩
        have hT2:=(show Tr w 0 p 0 0 ⟨#[]⟩ W1 from HT1).below hb2
        have c0:=hT2.c0
        have f0:=hT2.fz 0
        have h2:=hT2.set0 sk
        have c2:=h2.c2
        have f2:=h2.fz 2
        obtain ⟨W6,hW6,HT6⟩:∃ W6,W6=(w2.setCell ⟨w.heap.size+1,0,none⟩ (.int .i64 sk)).setCell ⟨w.heap.size+1,2,none⟩ (.int .i64 ((p:Int)+(X.size:Int)))∧Hid (Tr w sk p ((p:Int)+(X.size:Int)) 0 ⟨#[]⟩ W6):=⟨_,rfl,h2.set2 _⟩
        clear hT2 h2 hsr hb2 HT1 hcell hsl g2
        go_upto_region 19 with fail
        rename_i Kr hKr
        have HKR:Hid (∀ (a:Act) (w1:World),bodyPost Tryz.prog Tryz.f130 (NumP w kd p tn nu tx) Exit.ret a w1→Kr a w1):=(fun a w1 h=>hKr a w1 (wp_ret h):∀ (a:Act) (w1:World),bodyPost Tryz.prog Tryz.f130 (NumP w kd p tn nu tx) Exit.ret a w1→Kr a w1)
        go_light
        rw [← hW6]
        clear hW6 c0 c2 f0 f2
        have h6:=(show Tr w sk p ((p:Int)+(X.size:Int)) 0 ⟨#[]⟩ W6 from HT6)
        have hc0:=h6.c0
        have hc1:=h6.c1
        have hc2:=h6.c2
        have hc3:=h6.c3
        have hc4:=h6.c4
        have hc5:=h6.c5
        have z3:=h6.rz
        have g0:=z3.c0
        have g1:=z3.c1
        have g2:=z3.c2
        have g3:=z3.c3
        have g4:=z3.c4
        have g5:=z3.c5
        have v0:=z3.f0
        have v1:=z3.f1
        have v2:=z3.f2
        have v3:=z3.f3
        have v4:=z3.f4
        have v5:=z3.f5
        have e0:=st6_c0 z3
        have e1:=st6_c1 z3
        have e2:=st6_c2 z3
        have e3:=st6_c3 z3
        have e4:=st6_c4 z3
        have e5:=st6_c5 z3
        have HBL:Hid (Below w.heap.size w _):=h6.bel
        clear h6 z3
        go_wp2_with fail
        refine (show ∀ (a:Act) (w1:World),bodyPost Tryz.prog Tryz.f130 (NumP w kd p tn nu tx) Exit.ret a w1→Kr a w1 from HKR) _ _ (bodyPost_ret (by simp [results,Tryz.results130,go_sem,e0,e1,e2,e3,e4,e5];rfl) rfl ?_)
        obtain ⟨k1,k2,k3,k4,k5⟩:=(show kd=sk∧(tn:Int)=(p:Int)+(X.size:Int)∧kd ≠ 0∧nu=0∧tx=⟨#[]⟩ from HK2)
        subst k1 k4 k5
        exact ⟨st6_bel HBL (Nat.le_refl _) _ _ _ _ _ _,fun _=>by rw [k2];rfl,fun g=>absurd g k3⟩
inductive Tko (T:ByteArray) (L:List UInt8) (p:Nat):Tk→Prop
  | nl:lk L p=10→Tko T L p ⟨7,p+1,0,⟨#[]⟩⟩
  | word (m:Nat):isL (lk L p)=true→Wm (T.extract p (en isW L p)) m→Tko T L p ⟨wkI m,en isW L p,0,wkT m (T.extract p (en isW L p))⟩
  | num (kd:Int) (tn:Nat) (nu:Int) (tx:ByteArray):isD (lk L p)=true→¬ (lk L p=48∧lk L (p+1)=120)→Num T L p kd tn nu tx→Tko T L p ⟨kd,tn,nu,tx⟩
  | hex (ok:Bool) (tn:Nat) (n:Int):lk L p=48∧lk L (p+1)=120→Hx L p ok tn n→Tko T L p ⟨if ok=true then 2 else 0,tn,n,⟨#[]⟩⟩
  | str (ok:Bool) (tn:Nat) (t:List UInt8):lk L p=34→Sr L (p+1) [] ok tn t→Tko T L p ⟨if ok=true then 4 else 0,tn,0,⟨t.toArray⟩⟩
  | sign (m:Nat) (kd:Int) (tn:Nat):lk L p ≠ 10→isL (lk L p)=false→isD (lk L p)=false→lk L p ≠ 34→Sm (L.drop p) m→(m < 30∧kd=ssv (sgnL.getD m [])∧tn=p+(sgnL.getD m []).length∨¬ m < 30∧kd=0∧tn=p)→Tko T L p ⟨kd,tn,0,⟨#[]⟩⟩
theorem tko_any (T:ByteArray) (L:List UInt8) (p:Nat) (hp:p < L.length):∃ t,Tko T L p t:=by
  by_cases h10:lk L p=10
  · exact ⟨_,.nl h10⟩
  cases hL:isL (lk L p) with
  | true =>
    obtain ⟨m,hm⟩:=wm_any (T.extract p (en isW L p))
    exact ⟨_,.word m hL hm⟩
  | false =>
    cases hD:isD (lk L p) with
    | true =>
      by_cases hx:lk L p=48∧lk L (p+1)=120
      · have:=lk_lt (L:=L) (k:=p+1) (c:=120) (by decide) hx.2
        obtain ⟨ok,tn,n,h⟩:=hx_any L p (by omega)
        exact ⟨_,.hex ok tn n hx h⟩
      · obtain ⟨k,tn,n,x,h⟩:=num_any T L p
        exact ⟨_,.num k tn n x hD hx h⟩
    | false =>
      by_cases h34:lk L p=34
      · obtain ⟨ok,tn,t,h⟩:=sr_any L L.length (p+1) [] (by omega)
        exact ⟨_,.str ok tn t h34 h⟩
      · obtain ⟨m,hm⟩:=sm_any (L.drop p)
        by_cases h30:m < 30
        · exact ⟨_,.sign m _ _ h10 hL hD h34 hm (.inl ⟨h30,rfl,rfl⟩)⟩
        · exact ⟨_,.sign m _ _ h10 hL hD h34 hm (.inr ⟨h30,rfl,rfl⟩)⟩
theorem tk_any (T:ByteArray) (L:List UInt8):∃ tk:Nat→Tk,∀ p,p < L.length→Tko T L p (tk p) :=
  ⟨fun p=>if h:p < L.length then Classical.choose (tko_any T L p h) else ⟨0,0,0,⟨#[]⟩⟩,fun p hp=>by
    show Tko T L p (if h:p < L.length then Classical.choose (tko_any T L p h) else ⟨0,0,0,⟨#[]⟩⟩)
    rw [dif_pos hp]
    exact Classical.choose_spec (tko_any T L p hp)⟩
theorem isL_not {c:UInt8} (h:isD c=true):isL c=false:=by
  have:=digit_nat h
  unfold isL
  simp
  omega
theorem Tko.ok {T:ByteArray} {L:List UInt8} {p:Nat} {t:Tk} (h:Tko T L p t) (hp:p < L.length):(t.kind ≠ 0→p < t.to)∧t.to≤L.length:=by
  cases h with
  | nl _=>exact ⟨fun _=>Nat.lt_succ_self _,hp⟩
  | word m hL _ =>
    have hW:isW (lk L p)=true:=by unfold isW;rw [hL];rfl
    obtain ⟨h1,h2⟩:=en_at (p:=isW) isW_zero hW
    have h3:=en_ge isW L (p+1)
    exact ⟨fun _=>by show p < en isW L p;omega,en_le _ _ _ (by omega)⟩
  | num kd tn nu tx hD _ hn =>
    have key:p < tn∧tn≤L.length:=by
      cases hn with
      | bad _ nb=>exact nb.le hp
      | flt _ nb=>exact nb.le hp
      | int _ v nb hv=>exact nb.le hp
      | big _ nb hv=>exact nb.le hp
    exact ⟨fun _=>key.1,key.2⟩
  | hex ok tn n hx h =>
    have h1:=lk_lt (L:=L) (k:=p+1) (c:=120) (by decide) hx.2
    have h2:=en_le (dgb 16) L (p+2) (by omega)
    have h3:=en_ge (dgb 16) L (p+2)
    cases h with
    | none g=>exact ⟨fun _=>by show p < p+2;omega,by show p+2≤_;omega⟩
    | many g=>exact ⟨fun _=>by show p < p+18;omega,by show p+18≤_;omega⟩
    | some e v g1 g2 g3 g4=>exact ⟨fun _=>by show p < tn;omega,by show tn≤_;omega⟩
  | str ok tn t _ h =>
    have:=h.le (by omega)
    exact ⟨fun _=>by show p < tn;omega,this.2.1⟩
  | sign m kd tn _ _ _ _ hm hk =>
    rcases hk with ⟨h30,h1,h2⟩ | ⟨_,h1,h2⟩
    · have h3:=sgn_pos h30
      have hle:(sgnL.getD m []).length≤L.length - p:=by
        have:=congrArg List.length (eq_of_beq (hm.2.2.resolve_left (by omega)))
        rw [List.length_take,List.length_drop] at this
        omega
      exact ⟨fun _=>by show p < tn;omega,by show tn≤_;omega⟩
    · exact ⟨fun g=>absurd h1 g,by show tn≤_;omega⟩
theorem tko_ok {T:ByteArray} {L:List UInt8} {tk:Nat→Tk} (h:∀ p,p < L.length→Tko T L p (tk p)):TkOk L tk :=
  ⟨fun p hp=>((h p hp).ok hp).1,fun p hp=>((h p hp).ok hp).2⟩
theorem wkI_ne (m:Nat):wkI m ≠ 0:=by unfold wkI;split <;> omega
theorem tko_spec {T:ByteArray} {L:List UInt8} (hT:T.data.toList=L) (hlen:L.length≤65536) {tk:Nat→Tk} (h:∀ p,p < L.length→Tko T L p (tk p)):TokS T L tk:=by
  intro p w hp
  have key:∀ t:Tk,Tko T L p t→Calls Tryz.prog 130 #[.string T,.int .i64 (p:Int)] w (NumP w t.kind p t.to t.num t.text):=by
    intro t ht
    cases ht with
    | nl h10=>exact read_nl T L hT hlen p hp h10 ⟨rfl,rfl,rfl,rfl⟩ w
    | word m hL hm =>
      refine read_word T L hT hlen p hp (fun g=>by rw [g] at hL;exact absurd hL (by decide)) hL (fun W=>?_) w
      exact (spec_word T L hT hlen p m (by omega) hm W).mono fun e w' hh=>⟨hh.2,fun _=>hh.1,fun g=>absurd g (wkI_ne m)⟩
    | num kd tn nu tx hD hx hn =>
      refine readn T L hT hlen p hp (fun g=>by rw [g] at hD;exact absurd hD (by decide)) (isL_not hD) hD (fun W=>?_) w
      exact spec_num T L hT hlen p hD hx hn W
    | hex ok tn n hx hh =>
      refine readn T L hT hlen p hp (fun g=>by rw [hx.1] at g;exact absurd g (by decide)) (by rw [hx.1];decide) (by rw [hx.1];decide) (fun W=>?_) w
      exact spec_numx T L hT hlen p hx hh _ rfl W
    | str ok tn t h34 hh =>
      refine read_str T L hT hlen p hp (by rw [h34];decide) (by rw [h34];decide) h34 (fun W=>?_) w
      exact spec_string T L hT hlen p hp hh _ rfl W
    | sign m kd tn h10 hL hD h34 hm hk=>exact read_sign T L hT hlen p hp h10 hL hD h34 hm ⟨hk,rfl,rfl⟩ w
  exact key (tk p) (h p hp)
theorem tko_impl {B:Nat} {T:ByteArray} {L:List UInt8} (hT:T.data.toList=L) (hlen:L.length≤65536) (hB : 10≤B) {tk:Nat→Tk} (h:∀ p,p < L.length→Tko T L p (tk p)):TokC B T L tk:=by
  have hs:T.size=L.length:=by rw [← hT];simp
  have hl2:T.size≤65536:=by omega
  refine impl_token L tk hB hlen (fun p hp=>(tko_ok h).le p hp) (fun p hp=>?_)
  have hx:=lk_at hp
  have hne34:lk L p ≠ 34→((lk L p).toNat == 34)=false:=fun g=>by simp;intro e;exact g (UInt8.toNat_inj.1 (show (lk L p).toNat=34 from e))
  have hdrop:(L.drop p).head? = some (lk L p):=by rw [List.head?_drop];exact hx
  have key:∀ t:Tk,Tko T L p t→PartC 175 B T p t:=by
    intro t ht
    cases ht with
    | nl h10 =>
      refine alone_sign L hT p _ hx (by rw [h10];decide) (by rw [h10];decide) (by rw [h10];decide) hB _ ?_
      intro l w hg hsb
      have:=impl_signs L hT hl2 (Nat.le_of_lt hp) hB w hg hsb
      rw [sign_nl (by rw [hdrop,h10])] at this
      exact this
    | word m hL hm =>
      refine alone_word L hT p _ hx hL hB _ ?_
      intro l w hg hsb
      exact impl_word L hT hl2 m (Nat.le_of_lt hp) hm hB w hg hsb
    | num kd tn nu tx hD hx0 hn =>
      refine alone_num L hT p _ hx (isL_not hD) hD hB _ ?_
      intro l w hg hsb
      exact impl_num L hT hl2 hB hD hx0 hn w hg hsb
    | hex ok tn n hx0 hh =>
      refine alone_num L hT p _ hx (by rw [hx0.1];decide) (by rw [hx0.1];decide) hB _ ?_
      intro l w hg hsb
      exact impl_numx L hT hl2 hB hx0 hh _ rfl w hg hsb
    | str ok tn t h34 hh =>
      refine alone_str L hT p _ hx (by rw [h34];decide) (by rw [h34];decide) (by rw [h34];decide) hB _ ?_
      intro l w hg hsb
      exact impl_str L hT hl2 hp hB hh _ rfl w hsb
    | sign m kd tn h10 hL hD h34 hm hk =>
      refine alone_sign L hT p _ hx hL hD (hne34 h34) hB _ ?_
      intro l w hg hsb
      have:=impl_signs L hT hl2 (Nat.le_of_lt hp) hB w hg hsb
      rw [sign_eq hm (by rw [hdrop];intro g;exact h10 (Option.some.inj g))] at this
      rcases hk with ⟨h30,rfl,rfl⟩ | ⟨h30,rfl,rfl⟩
      · rw [if_pos h30] at this;exact this
      · rw [if_neg h30] at this;exact this
  exact key (tk p) (h p hp)
structure Tv where
  k:Int
  f:Int
  t:Int
  l:Int
  n:Int
  x:ByteArray
structure Cel (W:World) (g o:Nat) (a:Tv):Prop where
  c0:W.cell? ⟨g,o,none⟩=some (.int .i64 a.k)
  c1:W.cell? ⟨g,o+1,none⟩=some (.int .i64 a.f)
  c2:W.cell? ⟨g,o+2,none⟩=some (.int .i64 a.t)
  c3:W.cell? ⟨g,o+3,none⟩=some (.int .i64 a.l)
  c4:W.cell? ⟨g,o+4,none⟩=some (.int .i64 a.n)
  c5:W.cell? ⟨g,o+5,none⟩=some (.string a.x)
def RowC (W:World) (v:Value) (g n:Nat) (A:Nat→Tv):Prop :=
  ∃ pa cap,v = .slice pa n cap∧(0 < n→pa=some ⟨g,0,none⟩∧n≤cap)∧∀ i,i < n→Cel W g (i*6) (A i)
theorem Cel.block {W W':World} {g o:Nat} {a:Tv} (h:Cel W g o a) (hb:W'.heap[g]? = W.heap[g]?):Cel W' g o a:=by
  have e:∀ j,W'.cell? ⟨g,j,none⟩=W.cell? ⟨g,j,none⟩:=fun j=>World.cell?_of_block hb
  exact ⟨by rw [e];exact h.c0,by rw [e];exact h.c1,by rw [e];exact h.c2,by rw [e];exact h.c3,by rw [e];exact h.c4,by rw [e];exact h.c5⟩
theorem Cel.lt {W:World} {g o:Nat} {a:Tv} (h:Cel W g o a):g < W.heap.size:=by
  have:=h.c0
  exact Rd.lt_of_cell this
theorem flat_get (tk:Nat→Tk):∀ (xs:List (Nat × Int)) (i j:Nat) (x:Nat × Int),xs[i]? = some x→j < 6→(xs.flatMap (tcs tk))[i*6+j]? = (tcs tk x)[j]?
  | [],i,j,x,h,_=>by simp at h
  | y :: r,i,j,x,h,hj=>by
    rw [List.flatMap_cons]
    have hl:(tcs tk y).length=6:=rfl
    cases i with
    | zero =>
      have:y=x:=by simpa using h
      subst this
      rw [Nat.zero_mul,Nat.zero_add,List.getElem?_append_left (by omega)]
    | succ i =>
      rw [List.getElem?_append_right (by omega),hl,show (i+1)*6+j - 6=i*6+j by omega]
      exact flat_get tk r i j x (by simpa using h) hj
def tvs (tk:Nat→Tk) (xs:List (Nat × Int)) (i:Nat):Tv:=match xs[i]? with
  | some x=>⟨(tk x.1).kind,x.1,(tk x.1).to,x.2,(tk x.1).num,(tk x.1).text⟩
  | none=>⟨0,0,0,0,0,⟨#[]⟩⟩
theorem addr_add (g m:Nat):(⟨g,0,none⟩:Addr).add m=⟨g,m,none⟩:=by
  unfold Addr.add
  split
  · rename_i h
    have h2:m=0:=by simpa using h
    rw [h2]
  · simp
def Own (W:World) (base:Nat) (v:Value) (n:Nat) (A:Nat→Tv):Prop:=∃ g,RowC W v g n A∧(0 < n→base≤g∧∀ j,W.frozen? ⟨g,j,none⟩=false)
theorem own_row {W:World} {base:Nat} {v:Value} {tk:Nat→Tk} {xs:List (Nat × Int)} (h:W.ownsRow base 179 6 v xs.length (xs.flatMap (tcs tk))):Own W base v xs.length (tvs tk xs):=by
  rcases h.2 with ⟨rfl,h0⟩ | ⟨g,cap,cur,rfl,h1,h2,h3,h4,h5,h6⟩
  · exact ⟨0,⟨none,0,by rw [h0],fun g=>by omega,fun i hi=>by omega⟩,fun g=>by omega⟩
  · refine ⟨g,⟨_,cap,rfl,fun _=>⟨rfl,h3⟩,fun i hi=>?_⟩,fun _=>⟨h1,fun j=>by simp [World.frozen?,h2]⟩⟩
    have hx:=List.getElem?_eq_getElem hi
    have e:tvs tk xs i=⟨(tk (xs[i]).1).kind,(xs[i]).1,(tk (xs[i]).1).to,(xs[i]).2,(tk (xs[i]).1).num,(tk (xs[i]).1).text⟩:=by unfold tvs;rw [hx]
    have c:∀ j u,j < 6→(tcs tk xs[i])[j]? = some u→W.cell? ⟨g,i*6+j,none⟩=some u:=by
      intro j u hj hu
      have:=h.cells (g:=g) rfl (i*6+j) u (by rw [flat_get tk xs i j _ hx hj];exact hu)
      rw [addr_add] at this
      exact this
    rw [e]
    exact ⟨c 0 _ (by omega) rfl,c 1 _ (by omega) rfl,c 2 _ (by omega) rfl,c 3 _ (by omega) rfl,c 4 _ (by omega) rfl,c 5 _ (by omega) rfl⟩
theorem own_nil (W:World) (base:Nat) (A:Nat→Tv):Own W base (.slice none 0 0) 0 A:=⟨0,⟨none,0,rfl,fun g=>by omega,fun i hi=>by omega⟩,fun g=>by omega⟩
def Blk (W:World) (b:Nat) (o:Bool) (a:Int) (v:Value):Prop:=W.heap[b]? = some (.cells #[.bool o,.int .i64 a,v] 207 (0,0))
theorem Blk.new (W:World) (o:Bool) (a:Int) (v:Value):Blk (W.alloc (.cells #[.bool o,.int .i64 a,v] 207)) W.heap.size o a v:=World.alloc_heap_new W _
theorem Blk.c2 {W:World} {b:Nat} {o:Bool} {a:Int} {v:Value} (h:Blk W b o a v):W.cell? ⟨b,2,none⟩=some v:=by unfold Blk at h;simp [World.cell?,h]
theorem Kb.new (B:Nat) (W:World) (x:Obj):Kb B W (W.alloc x):=Kb.of_below ((Below.refl _ W).alloc (Nat.le_refl _) _) (Nat.le_refl _)
theorem run_len {L:List UInt8} {tk:Nat→Tk} (ok:TkOk L tk) {p:Nat} {l:Int} {xs:List (Nat × Int)} {e:Nat} {st:Bool} (h:Run L tk p l xs e st):p≤L.length→xs.length+p≤L.length:=by
  induction h with
  | fin p l h=>intro hp;simp;omega
  | bad p l h hk=>intro hp;simp;omega
  | step p l ts e st h hk hr ih =>
    intro hp
    have h1:=ok.lt p h hk
    have h2:=ok.le p h
    have h3:=bl_le L _ h2
    have h4:=bl_ge L (tk p).to
    have:=ih h3
    simp
    omega
theorem kept_new (w:World) (x:Obj):Rd.Kept w (w.alloc x):=Kb.kept (B:=w.heap.size) (Kb.new _ _ _) (Nat.le_refl _)
theorem tok_big (T : ByteArray) (kk f t l nn : Int) (hs : (40 : Int) < (T.size : Int)) (w : World) :
    Calls Tryz.prog 153 #[.agg #[.int .i64 kk,.int .i64 f,.int .i64 t,.int .i64 l,.int .i64 nn,.string T],.int .i64 40] w fun e w'=>e = .returned (.string ⟨#[]⟩)∧Rd.Kept w w':=by
  go_enter Tryz.func153,Tryz.ntmps153
  go_wp2_with fail
  go_ret
  exact ⟨rfl,kept_new _ _⟩
theorem impl_tok (T : ByteArray) (kk f t l nn : Int) (hs : ¬ (40 : Int) < (T.size : Int)) (o : Bool) (a : Int) (n : Nat) (A : Nat → Tv)
    (H6:∀ w,Gd w→Calls Tryz.prog 164 #[.string T] w fun e w'=>Rd.Kept w w'∧∃ v,e = .returned (.agg #[.bool o,.int .i64 a,v])∧Own w' w.heap.size v n A) (R:ByteArray)
    (hR:(n=1∧(A 0).k=kk∧(A 0).x=T∧R=T)∨((n=1→(A 0).k=kk→(A 0).x ≠ T)∧R=⟨#[]⟩)) (w:World) (hg:Gd w) :
    Calls Tryz.prog 153 #[.agg #[.int .i64 kk,.int .i64 f,.int .i64 t,.int .i64 l,.int .i64 nn,.string T],.int .i64 40] w fun e w'=>e = .returned (.string R)∧Rd.Kept w w':=by
  obtain ⟨W0,hW0,HK0,hc0,hc5⟩:∃ W0,W0=w.alloc (.cells #[.int .i64 kk,.int .i64 f,.int .i64 t,.int .i64 l,.int .i64 nn,.string T] 179)∧Hid (∀ B,Kb B w W0)∧W0.cell? ⟨w.heap.size,0,none⟩=some (.int .i64 kk)∧W0.cell? ⟨w.heap.size,5,none⟩=some (.string T) :=
    ⟨_,rfl,(fun B=>Kb.new B _ _:∀ B,Kb B w _),by simp,by simp⟩
  have h6:=H6 W0 (hg.kb (B:=w.heap.size) hg.size (HK0 _))
  have HR:Hid ((n=1∧(A 0).k=kk∧(A 0).x=T∧R=T)∨((n=1→(A 0).k=kk→(A 0).x ≠ T)∧R=⟨#[]⟩)):=hR
  have hlt0:w.heap.size < W0.heap.size:=by rw [hW0];simp
  clear H6 hR hg
  go_enter Tryz.func153,Tryz.ntmps153
  go_upto_region 1 with fail
  rw [← hW0]
  clear hW0
  go_wp2_with fail
  refine h6.mono ?_
  rintro e w2 ⟨hk2,v2,rfl,g,hr2,hf2⟩
  obtain ⟨p2,k2,hv2,hp2,hce⟩:=hr2
  subst hv2
  obtain ⟨W2,hW2,HK2,hq⟩:∃ W2,W2=w2.alloc (.cells #[.bool o,.int .i64 a,.slice p2 n k2] 207)∧Hid (∀ B,Kb B w2 W2)∧Blk W2 w2.heap.size o a (.slice p2 n k2):=⟨_,rfl,(fun B=>Kb.new B _ _:∀ B,Kb B w2 _),Blk.new _ _ _ _⟩
  have HKW:Hid (∀ B,Kb B W0 W2):=(fun B=>(Kb.of_kept hk2).trans (HK2 B):∀ B,Kb B W0 W2)
  have HEND:Hid (∀ m m',Rd.Kept w ((W2.drewN m).drewN m')):=(fun m m'=>Kb.kept (B:=w.heap.size) ((((HK0 _).trans (HKW _)).drewN m).drewN m') (Nat.le_refl _):∀ m m',Rd.Kept w ((W2.drewN m).drewN m'))
  have b0:W2.cell? ⟨w.heap.size,0,none⟩=some (.int .i64 kk):=by rw [World.cell?_of_block ((HKW (w.heap.size+1)).block w.heap.size hlt0 (by omega))];exact hc0
  have b5:W2.cell? ⟨w.heap.size,5,none⟩=some (.string T):=by rw [World.cell?_of_block ((HKW (w.heap.size+1)).block w.heap.size hlt0 (by omega))];exact hc5
  have q2:=hq.c2
  have HCE:Hid (0 < n→p2=some ⟨g,0,none⟩∧n≤k2∧W2.cell? ⟨g,0,none⟩=some (.int .i64 (A 0).k)∧W2.cell? ⟨g,5,none⟩=some (.string (A 0).x)):=(fun h0=>by
    have h1:=hp2 h0
    have h2:=(hce 0 h0).block ((HK2 (g+1)).block g (hce 0 h0).lt (by omega))
    exact ⟨h1.1,h1.2,by simpa using h2.c0,by simpa using h2.c5⟩ : 0 < n→_)
  clear h6 hk2 hf2 hp2 hce hc0 hc5 HK2 HKW HK0 hq
  go_upto_region 4 with fail
  rw [← hW2]
  clear hW2
  by_cases h1:n=1
  · subst h1
    obtain ⟨rfl,hck,d0,d5⟩:=(show 0 < 1→p2=some ⟨g,0,none⟩∧1≤k2∧W2.cell? ⟨g,0,none⟩=some (.int .i64 (A 0).k)∧W2.cell? ⟨g,5,none⟩=some (.string (A 0).x) from HCE) (by omega)
    clear HCE
    by_cases h2:(A 0).k=kk
    · rw [h2] at d0
      by_cases h3:(A 0).x=T
      · have HRR : Hid (R = T) := by
          rcases (show _∨_ from HR) with ⟨_,_,_,h⟩ | ⟨h,_⟩
          · exact h
          · exact absurd h3 (h rfl h2)
        rw [h3] at d5
        clear HR h2 h3
        go_quiet (fail)
        go_wp2_with fail
        go_quiet (fail)
        go_wp2_with fail
        go_ret
        exact ⟨by rw [show R=T from HRR];rfl,(show ∀ m m',Rd.Kept w ((W2.drewN m).drewN m') from HEND) _ 0⟩
      · have HRR : Hid (R = ⟨#[]⟩) := by
          rcases (show _∨_ from HR) with ⟨_,_,h,_⟩ | ⟨_,h⟩
          · exact absurd h h3
          · exact h
        have hne:((A 0).x.toList == T.toList)=false:=by
          rw [cmp_list]
          apply Bool.eq_false_iff.2
          intro g
          apply h3
          have:=eq_of_beq g
          exact ByteArray.ext (Array.toList_inj.1 this)
        clear HR h2 h3
        generalize (A 0).x=X at *
        go_quiet (fail)
        go_wp2_with fail
        go_quiet (fail)
        go_wp2_with fail
        go_ret
        exact ⟨by rw [show R=⟨#[]⟩ from HRR];rfl,(show ∀ m m',Rd.Kept w ((W2.drewN m).drewN m') from HEND) _ 0⟩
    · have HRR : Hid (R = ⟨#[]⟩) := by
        rcases (show _∨_ from HR) with ⟨_,h,_⟩ | ⟨_,h⟩
        · exact absurd h h2
        · exact h
      have hne:((A 0).k != kk)=true:=by simpa using h2
      clear HR h2
      generalize (A 0).k=xk at *
      generalize (A 0).x=X at *
      go_quiet (fail)
      go_wp2_with fail
      go_ret
      exact ⟨by rw [show R=⟨#[]⟩ from HRR];rfl,(show ∀ m m',Rd.Kept w ((W2.drewN m).drewN m') from HEND) _ 0⟩
  · have HRR : Hid (R = ⟨#[]⟩) := by
      rcases (show _∨_ from HR) with ⟨h,_⟩ | ⟨_,h⟩
      · exact absurd h h1
      · exact h
    have hne:((n:Int) != 1)=true:=by simp;omega
    clear HR h1 HCE
    go_quiet (fail)
    go_wp2_with fail
    go_ret
    exact ⟨by rw [show R=⟨#[]⟩ from HRR];rfl,(show ∀ m m',Rd.Kept w ((W2.drewN m).drewN m') from HEND) _ 0⟩
theorem name_ok (T : ByteArray) (L : List UInt8) (hT : T.data.toList = L) (hlen : L.length ≤ 40) (t : Tk) (ht : 0 < L.length → ∀ w, Calls Tryz.prog 130 #[.string T, .int .i64 0] w (NumP w t.kind 0 t.to t.num t.text)) (z : Bool) (hz : (0 < L.length ∧ isL (lk L 0) = true ∧ t.kind = 1 ∧ t.to = L.length ∧ z = true) ∨ (¬ (0 < L.length ∧ isL (lk L 0) = true ∧ t.kind = 1 ∧ t.to = L.length) ∧ z = false)) (w : World) :
    Calls Tryz.prog 104 #[.string T] w fun e w'=>e = .returned (.bool z)∧Below w.heap.size w w':=by
  have hs:T.size=L.length:=by rw [← hT];simp
  by_cases h0:L.length=0
  · have hz0 : z = false := by
      rcases hz with h | h
      · omega
      · exact h.2
    have hT0:(T.size:Int)=0:=by omega
    subst hz0
    clear ht hz hT hlen hs h0
    go_enter Tryz.func104,Tryz.ntmps104
    go_wp2_with fail
    go_ret
    exact ⟨rfl,Below.refl _ _⟩
  · have hT0:((T.size:Int) == 0)=false:=by rw [beq_eq_false_iff_ne];omega
    have hTe:¬ T=ByteArray.empty:=fun g=>by rw [g] at hs;exact h0 (by rw [← hs];rfl)
    have hT40:¬ (40:Int) < (T.size:Int):=by omega
    have hix:∀ W:World,(Instr.index 9 (.string T) (.int .i64 0)).run Tryz.prog W = .ok (.int .u8 ((lk L 0).toNat:Int)) W:=fun W=>ix T L hT 0 _ (lk_at (show 0 < L.length by omega)) W
    have hp:=spec_isL (lk L 0)
    cases hP:isL (lk L 0) with
    | false =>
      have hz0:z=false:=by
        rcases hz with h | h
        · rw [hP] at h;exact absurd h.2.1 (by decide)
        · exact h.2
      subst hz0
      rw [hP] at hp
      clear ht hz hT hlen hs h0 hP
      generalize ((lk L 0).toNat:Int)=x0 at *
      go_enter Tryz.func104,Tryz.ntmps104
      go_wp2_with fail
      refine (hp _).mono ?_
      rintro e w1 ⟨rfl,rfl⟩
      go_wp2_with fail
      go_ret
      exact ⟨rfl,Below.refl _ _⟩
    | true =>
      rw [hP] at hp
      have hrd:=ht (by omega) w
      have HZ:Hid ((t.kind=1∧t.to=L.length∧z=true)∨(¬ (t.kind=1∧t.to=L.length)∧z=false)):=by
        rcases hz with h | h
        · exact .inl ⟨h.2.2.1,h.2.2.2.1,h.2.2.2.2⟩
        · exact .inr ⟨fun g=>h.1 ⟨by omega,hP,g⟩,h.2⟩
      have HS:Hid (T.size=L.length):=hs
      clear ht hz hT hlen h0 hP hs
      generalize ((lk L 0).toNat:Int)=x0 at *
      go_enter Tryz.func104,Tryz.ntmps104
      go_wp2_with fail
      refine (hp _).mono ?_
      rintro e w1 ⟨rfl,hw1⟩
      rw [hw1]
      clear hp hw1
      go_wp2_with fail
      refine hrd.mono ?_
      rintro e w2 ⟨hb2,hy,hn⟩
      have HB:Hid (∀ x:Obj,Below w.heap.size w (w2.alloc x)):=(fun x=>hb2.alloc hb2.size _:∀ x:Obj,Below w.heap.size w (w2.alloc x))
      by_cases hk0:t.kind=0
      · obtain ⟨a,b,c,d,m,tt,he⟩:=hn hk0
        subst he
        have hz0:z=false:=by
          rcases (show _∨_ from HZ) with h | h
          · omega
          · exact h.2
        subst hz0
        have hto:¬ (t.to:Int) < 0:=by omega
        clear hrd hb2 hy hn hk0 HZ
        generalize (t.to:Int)=tz at *
        unfold tokV
        go_wp2_with fail
        go_ret
        exact ⟨rfl,(show ∀ x:Obj,Below w.heap.size w (w2.alloc x) from HB) _⟩
      · have he:=hy hk0
        subst he
        clear hrd hb2 hy hn hk0
        by_cases h1:t.kind=1
        · by_cases h2:t.to=L.length
          · have hz1 : z = true := by
              rcases (show _∨_ from HZ) with h | h
              · exact h.2.2
              · exact absurd ⟨h1,h2⟩ h.1
            subst hz1
            rw [h1,show (t.to:Int)=(T.size:Int) by rw [h2,show T.size=L.length from HS]]
            clear HZ h1 h2 HS
            unfold tokV
            go_wp2_with fail
            go_ret
            exact ⟨rfl,(show ∀ x:Obj,Below w.heap.size w (w2.alloc x) from HB) _⟩
          · have hz1 : z = false := by
              rcases (show _∨_ from HZ) with h | h
              · exact absurd h.2.1 h2
              · exact h.2
            subst hz1
            have h3:((t.to:Int) == (T.size:Int))=false:=by rw [beq_eq_false_iff_ne,show T.size=L.length from HS];omega
            rw [h1]
            clear HZ h1 h2
            generalize (t.to:Int)=tz at *
            unfold tokV
            go_wp2_with fail
            go_ret
            exact ⟨rfl,(show ∀ x:Obj,Below w.heap.size w (w2.alloc x) from HB) _⟩
        · have hz1 : z = false := by
            rcases (show _∨_ from HZ) with h | h
            · exact absurd h.1 h1
            · exact h.2
          subst hz1
          have h3:(t.kind == 1)=false:=by simpa using h1
          clear HZ h1
          generalize t.kind=kk at *
          generalize (t.to:Int)=tz at *
          unfold tokV
          go_wp2_with fail
          go_ret
          exact ⟨rfl,(show ∀ x:Obj,Below w.heap.size w (w2.alloc x) from HB) _⟩
theorem name_ok_big (T:ByteArray) (h:(40:Int) < (T.size:Int)) (w:World):Calls Tryz.prog 104 #[.string T] w fun e w'=>e = .returned (.bool false)∧Below w.heap.size w w':=by
  have h0:((T.size:Int) == 0)=false:=by rw [beq_eq_false_iff_ne];omega
  have hTe:¬ T=ByteArray.empty:=fun g=>by rw [g] at h;exact absurd h (by decide)
  go_enter Tryz.func104,Tryz.ntmps104
  go_wp2_with fail
  go_ret
  exact ⟨rfl,Below.refl _ _⟩
theorem flt_ok (T : ByteArray) (L : List UInt8) (hT : T.data.toList = L) (hlen : L.length ≤ 40) (t : Tk) (ht : 0 < L.length → ∀ w, Calls Tryz.prog 130 #[.string T, .int .i64 0] w (NumP w t.kind 0 t.to t.num t.text)) (z : Bool) (hz : (0 < L.length ∧ isD (lk L 0) = true ∧ t.kind = 3 ∧ t.to = L.length ∧ z = true) ∨ (¬ (0 < L.length ∧ isD (lk L 0) = true ∧ t.kind = 3 ∧ t.to = L.length) ∧ z = false)) (w : World) :
    Calls Tryz.prog 103 #[.string T] w fun e w'=>e = .returned (.bool z)∧Below w.heap.size w w':=by
  have hs:T.size=L.length:=by rw [← hT];simp
  by_cases h0:L.length=0
  · have hz0 : z = false := by
      rcases hz with h | h
      · omega
      · exact h.2
    have hT0:(T.size:Int)=0:=by omega
    subst hz0
    clear ht hz hT hlen hs h0
    go_enter Tryz.func103,Tryz.ntmps103
    go_wp2_with fail
    go_ret
    exact ⟨rfl,Below.refl _ _⟩
  · have hT0:((T.size:Int) == 0)=false:=by rw [beq_eq_false_iff_ne];omega
    have hTe:¬ T=ByteArray.empty:=fun g=>by rw [g] at hs;exact h0 (by rw [← hs];rfl)
    have hT40:¬ (40:Int) < (T.size:Int):=by omega
    have hix:∀ W:World,(Instr.index 9 (.string T) (.int .i64 0)).run Tryz.prog W = .ok (.int .u8 ((lk L 0).toNat:Int)) W:=fun W=>ix T L hT 0 _ (lk_at (show 0 < L.length by omega)) W
    have hp:=spec_isD (lk L 0)
    cases hP:isD (lk L 0) with
    | false =>
      have hz0:z=false:=by
        rcases hz with h | h
        · rw [hP] at h;exact absurd h.2.1 (by decide)
        · exact h.2
      subst hz0
      rw [hP] at hp
      clear ht hz hT hlen hs h0 hP
      generalize ((lk L 0).toNat:Int)=x0 at *
      go_enter Tryz.func103,Tryz.ntmps103
      go_wp2_with fail
      refine (hp _).mono ?_
      rintro e w1 ⟨rfl,rfl⟩
      go_wp2_with fail
      go_ret
      exact ⟨rfl,Below.refl _ _⟩
    | true =>
      rw [hP] at hp
      have hrd:=ht (by omega) w
      have HZ:Hid ((t.kind=3∧t.to=L.length∧z=true)∨(¬ (t.kind=3∧t.to=L.length)∧z=false)):=by
        rcases hz with h | h
        · exact .inl ⟨h.2.2.1,h.2.2.2.1,h.2.2.2.2⟩
        · exact .inr ⟨fun g=>h.1 ⟨by omega,hP,g⟩,h.2⟩
      have HS:Hid (T.size=L.length):=hs
      clear ht hz hT hlen h0 hP hs
      generalize ((lk L 0).toNat:Int)=x0 at *
      go_enter Tryz.func103,Tryz.ntmps103
      go_wp2_with fail
      refine (hp _).mono ?_
      rintro e w1 ⟨rfl,hw1⟩
      rw [hw1]
      clear hp hw1
      go_wp2_with fail
      refine hrd.mono ?_
      rintro e w2 ⟨hb2,hy,hn⟩
      have HB:Hid (∀ x:Obj,Below w.heap.size w (w2.alloc x)):=(fun x=>hb2.alloc hb2.size _:∀ x:Obj,Below w.heap.size w (w2.alloc x))
      by_cases hk0:t.kind=0
      · obtain ⟨a,b,c,d,m,tt,he⟩:=hn hk0
        subst he
        have hz0:z=false:=by
          rcases (show _∨_ from HZ) with h | h
          · omega
          · exact h.2
        subst hz0
        have hto:¬ (t.to:Int) < 0:=by omega
        clear hrd hb2 hy hn hk0 HZ
        generalize (t.to:Int)=tz at *
        unfold tokV
        go_wp2_with fail
        go_ret
        exact ⟨rfl,(show ∀ x:Obj,Below w.heap.size w (w2.alloc x) from HB) _⟩
      · have he:=hy hk0
        subst he
        clear hrd hb2 hy hn hk0
        by_cases h1:t.kind=3
        · by_cases h2:t.to=L.length
          · have hz1 : z = true := by
              rcases (show _∨_ from HZ) with h | h
              · exact h.2.2
              · exact absurd ⟨h1,h2⟩ h.1
            subst hz1
            rw [h1,show (t.to:Int)=(T.size:Int) by rw [h2,show T.size=L.length from HS]]
            clear HZ h1 h2 HS
            unfold tokV
            go_wp2_with fail
            go_ret
            exact ⟨rfl,(show ∀ x:Obj,Below w.heap.size w (w2.alloc x) from HB) _⟩
          · have hz1 : z = false := by
              rcases (show _∨_ from HZ) with h | h
              · exact absurd h.2.1 h2
              · exact h.2
            subst hz1
            have h3:((t.to:Int) == (T.size:Int))=false:=by rw [beq_eq_false_iff_ne,show T.size=L.length from HS];omega
            rw [h1]
            clear HZ h1 h2
            generalize (t.to:Int)=tz at *
            unfold tokV
            go_wp2_with fail
            go_ret
            exact ⟨rfl,(show ∀ x:Obj,Below w.heap.size w (w2.alloc x) from HB) _⟩
        · have hz1 : z = false := by
            rcases (show _∨_ from HZ) with h | h
            · exact absurd h.1 h1
            · exact h.2
          subst hz1
          have h3:(t.kind == 3)=false:=by simpa using h1
          clear HZ h1
          generalize t.kind=kk at *
          generalize (t.to:Int)=tz at *
          unfold tokV
          go_wp2_with fail
          go_ret
          exact ⟨rfl,(show ∀ x:Obj,Below w.heap.size w (w2.alloc x) from HB) _⟩
theorem flt_ok_big (T:ByteArray) (h:(40:Int) < (T.size:Int)) (w:World):Calls Tryz.prog 103 #[.string T] w fun e w'=>e = .returned (.bool false)∧Below w.heap.size w w':=by
  have h0:((T.size:Int) == 0)=false:=by rw [beq_eq_false_iff_ne];omega
  have hTe:¬ T=ByteArray.empty:=fun g=>by rw [g] at h;exact absurd h (by decide)
  go_enter Tryz.func103,Tryz.ntmps103
  go_wp2_with fail
  go_ret
  exact ⟨rfl,Below.refl _ _⟩
end Go.Proofs.YtomcmnompajnlaaGreatDoor
