import Derived.Test.YtnmeemjoodoalaaGreatDoorNExr
set_option maxHeartbeats 16000000
namespace Go.Proofs.YtnmeemjoodoalaaGreatDoor.Fo
open Go.ChangeShapes Go.WideShapes Go.ChangeAt Go.RowKit
set_option linter.unusedVariables false
set_option maxRecDepth 100000
structure Rp where
  x : ByteArray
  l : Int
  m : Int
  r : Bool
  g : Int
  U : List (Bool × Int)
  C : List Vv
  N : List Iv
  D : List Mv
def pe (q : Rp) : List UInt8:=tb q.x ++ nb q.l ++ nb q.m ++ fb q.r ++ nb q.g ++ ls ub q.U ++ ls cb q.C ++ ls ib q.N ++ ls mb q.D
structure Rok (q : Rp) : Prop where
  x : q.x.size ≤ 9223372036854775807
  l : Rn q.l
  m : Rn q.m
  g : Rn q.g
  U : ∀ y,y ∈ q.U → Ru y
  C : ∀ y,y ∈ q.C → Yv y
  N : ∀ y,y ∈ q.N → Ri y
  D : ∀ y,y ∈ q.D → Rm y
  u : q.U.length ≤ 250
  c : q.C.length ≤ 500
  n : q.N.length ≤ 6000
  d : q.D.length ≤ 500
structure Rt (q : Rp) : Prop where
  x : q.x.size ≤ 1000000
  l : Rn q.l
  m : Rn q.m
  g : Rn q.g
  U : ∀ y,y ∈ q.U → Ru y
  C : ∀ y,y ∈ q.C → Tv y
  N : ∀ y,y ∈ q.N → Ri y
  D : ∀ y,y ∈ q.D → Rm y
  u : q.U.length ≤ 1000000
  c : q.C.length ≤ 1000000
  n : q.N.length ≤ 1000000
  d : q.D.length ≤ 1000000
def OwnB (lo hi : Nat) (w : World) (e : TypeId) (size : Nat) (v : Value) (n : Nat) (xs : List Value) : Prop:=w.ownsRow lo e size v n xs ∧ ∀ g,v.ownBlock = some g → g < hi
def OwnQ (lo hi : Nat) (w : World) (q : Rp) (vu vc vn vd : Value) : Prop:=∃ s1 s2 s3,lo ≤ s1 ∧ s1 ≤ s2 ∧ s2 ≤ s3 ∧ s3 ≤ hi ∧ OwnB lo s1 w 89 2 vu q.U.length (q.U.flatMap upc) ∧ OwnB s1 s2 w 92 5 vc q.C.length (q.C.flatMap vlc) ∧ OwnB s2 s3 w 81 5 vn q.N.length (q.N.flatMap inc) ∧ OwnB s3 hi w 97 4 vd q.D.length (q.D.flatMap nmc)
theorem OwnB.blk {lo hi : Nat} {w w' : World} {e : TypeId} {size : Nat} {v : Value} {n : Nat} {xs : List Value} (h : OwnB lo hi w e size v n xs) (k : ∀ g,lo ≤ g → g < hi → w'.heap[g]? = w.heap[g]?) : OwnB lo hi w' e size v n xs :=
  ⟨rowBlk' h.1 (fun g e=>k g (h.1.lt g e).1 (h.2 g e)),h.2⟩
theorem OwnQ.blk {lo hi : Nat} {w w' : World} {q : Rp} {vu vc vn vd : Value} (h : OwnQ lo hi w q vu vc vn vd) (k : ∀ g,lo ≤ g → g < hi → w'.heap[g]? = w.heap[g]?) : OwnQ lo hi w' q vu vc vn vd:=by
  obtain ⟨s1,s2,s3,h1,h2,h3,h4,h5,h6,h7,h8⟩:=h
  exact ⟨s1,s2,s3,h1,h2,h3,h4,h5.blk (fun g a b=>k g (by omega) (by omega)),h6.blk (fun g a b=>k g (by omega) (by omega)),h7.blk (fun g a b=>k g (by omega) (by omega)),h8.blk (fun g a b=>k g (by omega) (by omega))⟩
def qv (q : Rp) (vu vc vn vd : Value) : Value:=.agg #[.string q.x,.int .i64 q.l,.int .i64 q.m,.bool q.r,.int .i64 q.g,vu,vc,vn,vd]
def RQP (b : Nat) (p : Option Addr) (c : Nat) (M : List UInt8) (k : Nat) (lost : Bool) (W : World) (e : Ending) (w' : World) : Prop :=
  ∃ q vu vc vn vd k' l',e = .returned (qv q vu vc vn vd) ∧ RI b p c M k' l' w' ∧ k ≤ k' ∧ Kx b W w' ∧ OwnQ W.heap.size w'.heap.size w' q vu vc vn vd ∧ Rt q ∧ (l' = false → k + q.N.length < k') ∧ (lost = true → l' = true) ∧ ∀ y rest,lost = false → Rok y → M.drop k = pe y ++ rest → q = y ∧ k' = k + (pe y).length ∧ l' = false
theorem im_rproto {b : Nat} {p : Option Addr} {c : Nat} {M : List UInt8} {k : Nat} {lost : Bool} {W : World} (h : RI b p c M k lost W) :
    Calls Tryz.prog 33 #[.pointer (some ⟨b,0,none⟩)] W (RQP b p c M k lost W):=by
  have HB:=im_rtext (h.kb (kb_alloc 0 W (.cells #[.string ⟨#[]⟩,.int .i64 0,.int .i64 0,.bool false,.int .i64 0,.slice none 0 0,.slice none 0 0,.slice none 0 0,.slice none 0 0] 50)))
  have hb:=h.lt
  have HH : Hid (RI b p c M k lost W):=h
  clear h
  go_enter Tryz.func33,Tryz.ntmps33
  go_wp2_with (go_at_call 77;refine HB.mono ?_;rintro e w0 ⟨v0,k0,l0,rfl,z0a,z0b,z0c,x0,rfl,z0d,z0e,z0f,z0g⟩)
  refine (im_rnum z0a).mono ?_
  rintro e w1 ⟨v1,k1,l1,rfl,z1a,z1b,z1c,x1,rfl,z1d,z1e,z1f,z1g⟩
  go_wp2_with fail
  refine (im_rnum z1a).mono ?_
  rintro e w2 ⟨v2,k2,l2,rfl,z2a,z2b,z2c,x2,rfl,z2d,z2e,z2f,z2g⟩
  go_wp2_with fail
  refine (im_rflag z2a).mono ?_
  rintro e w3 ⟨v3,k3,l3,rfl,z3a,z3b,z3c,x3,rfl,z3e,z3f,z3g⟩
  go_wp2_with fail
  refine (im_rnum z3a).mono ?_
  rintro e w4 ⟨v4,k4,l4,rfl,z4a,z4b,z4c,x4,rfl,z4d,z4e,z4f,z4g⟩
  go_wp2_with fail
  refine (rl_up z4a 250 (by omega)).mono ?_
  rintro e w5 ⟨v5,k5,l5,L5,rfl,z5a,z5b,z5c,r5,z5t,z5m,z5f,z5e,z5x⟩
  obtain ⟨a5,c5,rfl⟩:=own_shape r5
  go_wp2_with fail
  refine (rl_value z5a 500 (by omega)).mono ?_
  rintro e w6 ⟨v6,k6,l6,L6,rfl,z6a,z6b,z6c,r6,z6t,z6m,z6f,z6e,z6x⟩
  obtain ⟨a6,c6,rfl⟩:=own_shape r6
  go_wp2_with fail
  refine (rl_ins z6a 6000 (by omega)).mono ?_
  rintro e w7 ⟨v7,k7,l7,L7,rfl,z7a,z7b,z7c,r7,z7t,z7m,z7f,z7e,z7x⟩
  obtain ⟨a7,c7,rfl⟩:=own_shape r7
  go_wp2_with fail
  refine (rl_named z7a 500 (by omega)).mono ?_
  rintro e w8 ⟨v8,k8,l8,L8,rfl,z8a,z8b,z8c,r8,z8t,z8m,z8f,z8e,z8x⟩
  obtain ⟨a8,c8,rfl⟩:=own_shape r8
  have za : Kx b W (W.alloc (.cells #[.string ⟨#[]⟩,.int .i64 0,.int .i64 0,.bool false,.int .i64 0,.slice none 0 0,.slice none 0 0,.slice none 0 0,.slice none 0 0] 50)):=Kx.of_kb (kb_alloc 0 W _)
  have zk4 : Kx b (W.alloc (.cells #[.string ⟨#[]⟩,.int .i64 0,.int .i64 0,.bool false,.int .i64 0,.slice none 0 0,.slice none 0 0,.slice none 0 0,.slice none 0 0] 50)) w4:=((((z0c.ks.trans z1c.ks).trans z2c.ks).trans z3c.ks).trans z4c.ks)
  have zk : Kx b (W.alloc (.cells #[.string ⟨#[]⟩,.int .i64 0,.int .i64 0,.bool false,.int .i64 0,.slice none 0 0,.slice none 0 0,.slice none 0 0,.slice none 0 0] 50)) w8:=(((zk4.trans z5c).trans z6c).trans z7c).trans z8c
  have hs4 : W.heap.size < w4.heap.size:=by have:=zk4.size;rw [World.size_alloc] at this;omega
  have hs5:=z5c.size
  have hs6:=z6c.size
  have hs7:=z7c.size
  have hs8:=z8c.size
  have bg : w8.heap[W.heap.size]? = some (.cells #[.string ⟨#[]⟩,.int .i64 0,.int .i64 0,.bool false,.int .i64 0,.slice none 0 0,.slice none 0 0,.slice none 0 0,.slice none 0 0] 50 (0,0)):=(zk.block _ (by rw [World.size_alloc];omega) (by omega)).trans (alloc_new _ _ _)
  have d0 : w8.cell? ⟨W.heap.size,0,none⟩ = some (.string ⟨#[]⟩):=cell_of bg rfl
  have d1 : w8.cell? ⟨W.heap.size,1,none⟩ = some (.int .i64 0):=cell_of bg rfl
  have d2 : w8.cell? ⟨W.heap.size,2,none⟩ = some (.int .i64 0):=cell_of bg rfl
  have d3 : w8.cell? ⟨W.heap.size,3,none⟩ = some (.bool false):=cell_of bg rfl
  have d4 : w8.cell? ⟨W.heap.size,4,none⟩ = some (.int .i64 0):=cell_of bg rfl
  have d5 : w8.cell? ⟨W.heap.size,5,none⟩ = some (.slice none 0 0):=cell_of bg rfl
  have d6 : w8.cell? ⟨W.heap.size,6,none⟩ = some (.slice none 0 0):=cell_of bg rfl
  have d7 : w8.cell? ⟨W.heap.size,7,none⟩ = some (.slice none 0 0):=cell_of bg rfl
  have d8 : w8.cell? ⟨W.heap.size,8,none⟩ = some (.slice none 0 0):=cell_of bg rfl
  have df : ∀ j : Nat,w8.frozen? ⟨W.heap.size,j,none⟩ = false:=fun j=>frozen_of bg
  have hO : OwnQ W.heap.size w8.heap.size w8 (⟨x0,x1,x2,x3,x4,L5,L6,L7,L8⟩ : Rp) (.slice a5 L5.length c5) (.slice a6 L6.length c6) (.slice a7 L7.length c7) (.slice a8 L8.length c8):=by
    have q5:=Kx.row (W:=W) z8c (Kx.row (W:=W) z7c (Kx.row (W:=W) z6c r5 (by omega)) (by omega)) (by omega)
    have q6:=Kx.row (W:=W) z8c (Kx.row (W:=W) z7c r6 (by omega)) (by omega)
    have q7:=Kx.row (W:=W) z8c r7 (by omega)
    exact ⟨w5.heap.size,w6.heap.size,w7.heap.size,by omega,hs6,hs7,hs8,⟨ownsRow_mono2 q5 (by omega),fun g e=>(r5.lt g e).2⟩,⟨q6,fun g e=>(r6.lt g e).2⟩,⟨q7,fun g e=>(r7.lt g e).2⟩,⟨r8,fun g e=>(r8.lt g e).2⟩⟩
  have hO2 : ∀ g,(Value.ownBlock (.slice a5 L5.length c5) = some g ∨ Value.ownBlock (.slice a6 L6.length c6) = some g ∨ Value.ownBlock (.slice a7 L7.length c7) = some g ∨ Value.ownBlock (.slice a8 L8.length c8) = some g) → W.heap.size < g:=by
    intro g e
    rcases e with e | e | e | e
    · have:=(r5.lt g e).1;omega
    · have:=(r6.lt g e).1;omega
    · have:=(r7.lt g e).1;omega
    · have:=(r8.lt g e).1;omega
  have HQ : Hid (∀ u0 u1 u2 u3 u4 u5 u6 u7 u8 : Value,RI b p c M k8 l8 (((((((((w8.setCell ⟨W.heap.size,0,none⟩ u0).setCell ⟨W.heap.size,1,none⟩ u1).setCell ⟨W.heap.size,2,none⟩ u2).setCell ⟨W.heap.size,3,none⟩ u3).setCell ⟨W.heap.size,4,none⟩ u4).setCell ⟨W.heap.size,5,none⟩ u5).setCell ⟨W.heap.size,6,none⟩ u6).setCell ⟨W.heap.size,7,none⟩ u7).setCell ⟨W.heap.size,8,none⟩ u8) ∧ Kx b W (((((((((w8.setCell ⟨W.heap.size,0,none⟩ u0).setCell ⟨W.heap.size,1,none⟩ u1).setCell ⟨W.heap.size,2,none⟩ u2).setCell ⟨W.heap.size,3,none⟩ u3).setCell ⟨W.heap.size,4,none⟩ u4).setCell ⟨W.heap.size,5,none⟩ u5).setCell ⟨W.heap.size,6,none⟩ u6).setCell ⟨W.heap.size,7,none⟩ u7).setCell ⟨W.heap.size,8,none⟩ u8) ∧ OwnQ W.heap.size (((((((((w8.setCell ⟨W.heap.size,0,none⟩ u0).setCell ⟨W.heap.size,1,none⟩ u1).setCell ⟨W.heap.size,2,none⟩ u2).setCell ⟨W.heap.size,3,none⟩ u3).setCell ⟨W.heap.size,4,none⟩ u4).setCell ⟨W.heap.size,5,none⟩ u5).setCell ⟨W.heap.size,6,none⟩ u6).setCell ⟨W.heap.size,7,none⟩ u7).setCell ⟨W.heap.size,8,none⟩ u8).heap.size (((((((((w8.setCell ⟨W.heap.size,0,none⟩ u0).setCell ⟨W.heap.size,1,none⟩ u1).setCell ⟨W.heap.size,2,none⟩ u2).setCell ⟨W.heap.size,3,none⟩ u3).setCell ⟨W.heap.size,4,none⟩ u4).setCell ⟨W.heap.size,5,none⟩ u5).setCell ⟨W.heap.size,6,none⟩ u6).setCell ⟨W.heap.size,7,none⟩ u7).setCell ⟨W.heap.size,8,none⟩ u8) (⟨x0,x1,x2,x3,x4,L5,L6,L7,L8⟩ : Rp) (.slice a5 L5.length c5) (.slice a6 L6.length c6) (.slice a7 L7.length c7) (.slice a8 L8.length c8)):=(fun u0 u1 u2 u3 u4 u5 u6 u7 u8=>by
    have zs : Kx b W w8:=za.trans zk
    have zz : Kz W.heap.size w8 (((((((((w8.setCell ⟨W.heap.size,0,none⟩ u0).setCell ⟨W.heap.size,1,none⟩ u1).setCell ⟨W.heap.size,2,none⟩ u2).setCell ⟨W.heap.size,3,none⟩ u3).setCell ⟨W.heap.size,4,none⟩ u4).setCell ⟨W.heap.size,5,none⟩ u5).setCell ⟨W.heap.size,6,none⟩ u6).setCell ⟨W.heap.size,7,none⟩ u7).setCell ⟨W.heap.size,8,none⟩ u8):=((((((((((Kz.refl _ w8).set 0 u0).set 1 u1).set 2 u2).set 3 u3).set 4 u4).set 5 u5).set 6 u6).set 7 u7).set 8 u8)
    refine ⟨(show RI b p c M k lost W from HH).kg z8a zz (Nat.le_refl _),(((((((((zs.setNew (Nat.le_refl _) u0).setNew (Nat.le_refl _) u1).setNew (Nat.le_refl _) u2).setNew (Nat.le_refl _) u3).setNew (Nat.le_refl _) u4).setNew (Nat.le_refl _) u5).setNew (Nat.le_refl _) u6).setNew (Nat.le_refl _) u7).setNew (Nat.le_refl _) u8),?_⟩
    rw [zz.size]
    obtain ⟨s1,s2,s3,h1,h2,h3,h4,h5,h6,h7,h8⟩:=hO
    exact ⟨s1,s2,s3,h1,h2,h3,h4,⟨rowBlk' h5.1 (fun g e=>zz.block g (by have:=hO2 g (.inl e);omega)),h5.2⟩,⟨rowBlk' h6.1 (fun g e=>zz.block g (by have:=hO2 g (.inr (.inl e));omega)),h6.2⟩,⟨rowBlk' h7.1 (fun g e=>zz.block g (by have:=hO2 g (.inr (.inr (.inl e)));omega)),h7.2⟩,⟨rowBlk' h8.1 (fun g e=>zz.block g (by have:=hO2 g (.inr (.inr (.inr e)));omega)),h8.2⟩⟩ : ∀ u0 u1 u2 u3 u4 u5 u6 u7 u8 : Value,_)
  have hE : Rt (⟨x0,x1,x2,x3,x4,L5,L6,L7,L8⟩ : Rp) ∧ k ≤ k8 ∧ (l8 = false → k + L7.length < k8) ∧ (lost = true → l8 = true) ∧ ∀ y rest,lost = false → Rok y → M.drop k = pe y ++ rest → (⟨x0,x1,x2,x3,x4,L5,L6,L7,L8⟩ : Rp) = y ∧ k8 = k + (pe y).length ∧ l8 = false:=by
    refine ⟨⟨by have := z0a.le; have := z0a.sz; show x0.size ≤ 1000000; omega, z1d, z2d, z4d, z5t, z6t, z7t, z8t, by show L5.length ≤ 1000000; omega, by show L6.length ≤ 1000000; omega, by show L7.length ≤ 1000000; omega, by show L8.length ≤ 1000000; omega⟩, by omega, fun e => by
        have h7 : l7 = false:=by
          by_cases h : l7 = true
          · have:=z8f h
            rw [e] at this
            cases this
          · simpa using h
        have:=z7e h7
        have:=z8e e
        show k + L7.length < k8
        omega,fun e=>z8f (z7f (z6f (z5f (z4f (z3f (z2f (z1f (z0f e))))))))  ,fun y rest e hy hm=>?_⟩
    unfold pe at hm ⊢
    simp only [List.append_assoc] at hm
    obtain ⟨q0a,q0b,q0c⟩:=z0g y.x _ e hy.x hm
    replace hm:=drop_app hm
    rw [← q0b] at hm
    obtain ⟨q1a,q1b,q1c⟩:=z1g y.l _ q0c hy.l hm
    replace hm:=drop_app hm
    rw [← q1b] at hm
    obtain ⟨q2a,q2b,q2c⟩:=z2g y.m _ q1c hy.m hm
    replace hm:=drop_app hm
    rw [← q2b] at hm
    obtain ⟨q3a,q3b,q3c⟩:=z3g y.r _ q2c hm
    replace hm:=drop_app hm
    rw [← q3b] at hm
    obtain ⟨q4a,q4b,q4c⟩:=z4g y.g _ q3c hy.g hm
    replace hm:=drop_app hm
    rw [← q4b] at hm
    obtain ⟨q5a,q5b,q5c⟩:=z5x y.U _ q4c hy.U hy.u hm
    replace hm:=drop_app hm
    rw [← q5b] at hm
    obtain ⟨q6a,q6b,q6c⟩:=z6x y.C _ q5c hy.C hy.c hm
    replace hm:=drop_app hm
    rw [← q6b] at hm
    obtain ⟨q7a,q7b,q7c⟩:=z7x y.N _ q6c hy.N hy.n hm
    replace hm:=drop_app hm
    rw [← q7b] at hm
    obtain ⟨q8a,q8b,q8c⟩:=z8x y.D _ q7c hy.D hy.d hm
    refine ⟨?_,by simp only [List.length_append];omega,q8c⟩
    rw [q0a,q1a,q2a,q3a,q4a,q5a,q6a,q7a,q8a]
  have HE : Hid _:=hE
  clear hE hO hO2 HB za zk4 zk bg z0a z0b z0c z0d z0e z0f z0g z1a z1b z1c z1d z1e z1f z1g z2a z2b z2c z2d z2e z2f z2g z3a z3b z3c z3e z3f z3g z4a z4b z4c z4d z4e z4f z4g z5a z5b z5c z5t z5m z5f z5e z5x z6a z6b z6c z6t z6m z6f z6e z6x z7a z7b z7c z7t z7m z7f z7e z7x z8a z8b z8c z8t z8m z8f z8e z8x r5 r6 r7 r8
  go_wp2_with fail
  refine bodyPost_ret (by simp [results,Tryz.results33,go_sem,d0,d1,d2,d3,d4,d5,d6,d7,d8];rfl) rfl ?_
  obtain ⟨o1,o2,o3⟩:=(show ∀ u0 u1 u2 u3 u4 u5 u6 u7 u8 : Value,_ from HQ) (.string x0) (.int .i64 x1) (.int .i64 x2) (.bool x3) (.int .i64 x4) (.slice a5 L5.length c5) (.slice a6 L6.length c6) (.slice a7 L7.length c7) (.slice a8 L8.length c8)
  obtain ⟨q1,q2,q3,q4,q5⟩:=(show _ ∧ _ ∧ _ ∧ _ ∧ _ from HE)
  exact ⟨⟨x0,x1,x2,x3,x4,L5,L6,L7,L8⟩,_,_,_,_,k8,l8,rfl,o1,q2,o2,o3,q1,q3,q4,q5⟩
end Go.Proofs.YtnmeemjoodoalaaGreatDoor.Fo
