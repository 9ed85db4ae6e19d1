import Derived.Test.YtnmeemjoodoalaaGreatDoorNExi
set_option maxHeartbeats 8000000
namespace Go.Proofs.YtnmeemjoodoalaaGreatDoor.Fo
open Go.ChangeShapes Go.WideShapes Go.ChangeAt Go.RowKit
set_option linter.unusedVariables false
set_option maxRecDepth 100000
def sg (u : Nat) : Int:=IntKind.i64.wrap (u : Int)
theorem sg_bits (u x : Nat) (hx : x < 256) : bits BinOp.or IntKind.i64 (IntKind.i64.wrap (sg u * 256)) (x : Int) = sg (af u x):=by
  show IntKind.i64.wrap ((BitVec.ofInt 64 (IntKind.i64.wrap (sg u * 256)) ||| BitVec.ofInt 64 (x : Int)).toNat : Int) = _
  have e : (BitVec.ofInt 64 (IntKind.i64.wrap (sg u * 256))).toNat = u * 256 % 18446744073709551616:=by
    rw [BitVec.toNat_ofInt]
    unfold sg
    rw [IntKind.wrap_i64,IntKind.wrap_i64]
    omega
  rw [BitVec.toNat_or,e,Go.ofInt_u64 x (by omega)]
  rfl
theorem sg_u {u : Nat} (hu : u < 18446744073709551616) : IntKind.u64.wrap (sg u) = (u : Int):=by
  unfold sg
  rw [IntKind.wrap_i64,IntKind.wrap_u64]
  omega
theorem from_ext (n : Int) (w : World) : (callFunc 156 #[.int .u64 n]).run Tryz.prog w = .ok (.value (.float .f64 n.toNat)) w:=by
  rw [run_callFunc_extern (e:=Extern.MathFloatBits.float64frombits) Tryz.func156 (by kernel_rfl) (by kernel_rfl) (by kernel_rfl) (by kernel_rfl)]
  rfl
theorem im_fb {u : Nat} (hu : u < 18446744073709551616) (W : World) : Calls Tryz.prog 151 #[.int .i64 (sg u)] W fun e w'=>e = .returned (.float .f64 u) ∧ w' = W:=by
  have hx:=sg_u hu
  have hf:=from_ext (u : Int)
  have HU : Hid ((u : Int).toNat = u):=(Int.toNat_natCast u : (u : Int).toNat = u)
  clear hu
  go_enter Tryz.func151,Tryz.ntmps151
  generalize sg u = s at *
  go_wp2_with fail
  go_ret
  exact ⟨rfl,rfl⟩
theorem gfp_next {M : List UInt8} {k1 i u k' x k2 : Nat} {l1 l2 : Bool} (h : Gf M k1 false i u k' l1) (hi : i < 8) (hb : ∀ y,l1 = false → M[k']? = some y → x = y.toNat ∧ k2 = k' + 1 ∧ l2 = false) : Gf M k1 false (i + 1) (af u x) k2 l2:=by
  cases l1 with
  | false=>exact gf_next h hi (fun y hy=>hb y rfl hy)
  | true =>
    intro g rest hg hm
    have:=(h g rest hg hm).2.2.2
    cases this
theorem im_rfloat {b : Nat} {p : Option Addr} {c : Nat} {M : List UInt8} {k : Nat} {lost : Bool} {W : World} (h : RI b p c M k lost W) :
    Calls Tryz.prog 127 #[.pointer (some ⟨b,0,none⟩)] W (RQ b p c M k W (fun v k' lost'=>∃ f : Nat,v = .float .f64 f ∧ f < 18446744073709551616 ∧ (lost = true → lost' = true) ∧ ∀ g rest,lost = false → g < 18446744073709551616 → M.drop k = db g 8 ++ rest → f = g ∧ k' = k + 8 ∧ lost' = false)):=by
  have HH : Hid (RI b p c M k lost W):=h
  clear h
  go_enter Tryz.func127,Tryz.ntmps127
  go_wp2_with fail
  go_loopw [3,4] (fun s3 s4 wr=>∃ (u i k' : Nat) (l' : Bool) (z : Int),s3 = .int .i64 z ∧ s4 = .int .i64 (i : Int) ∧ i ≤ 8 ∧ Hid (z = sg u ∧ u < 18446744073709551616 ∧ RI b p c M k' l' wr ∧ k ≤ k' ∧ Kz b W wr ∧ (lost = true → l' = true) ∧ (lost = false → Gf M k false i u k' l'))) (fun _ s4 _=>8 - (intOf s4).toNat)
  case atStart=>exact ⟨0,0,k,lost,0,rfl,rfl,by omega,(⟨rfl,by omega,HH,Nat.le_refl _,Kz.refl _ _,id,fun e=>by rw [e];exact gf_zero _ _ _⟩ : _ ∧ _)⟩
  case round =>
    obtain ⟨u,i,k',l',z,rfl,rfl,hi,HX⟩:=hrel
    obtain ⟨x0,x1,x2,x3,x4,x5,x6⟩:=(show _ ∧ _ ∧ _ ∧ _ ∧ _ ∧ _ ∧ _ from HX)
    subst x0
    rcases Nat.lt_or_ge i 8 with hi2 | hi2
    · have hiI : (i : Int) < 8:=by omega
      have HB:=im_next x2
      clear HX x1 x2 HH
      go_upto_region 5 with (go_at_call 124;refine HB.mono ?_;rintro e w3 ⟨v3,k3,l3,rfl,z1,z2,z3,x,rfl,z4,z5,z6,z7,z8⟩)
      have hU : bits BinOp.or IntKind.i64 (wrap64 (sg u * 256)) (x : Int) = sg (af u x):=by
        rw [show wrap64 (sg u * 256) = IntKind.i64.wrap (sg u * 256) by unfold wrap64;rw [IntKind.wrap_i64]]
        exact sg_bits u x z4
      obtain ⟨S,hS⟩ : ∃ S,S = sg (af u x):=⟨_,rfl⟩
      have HN : Hid (S = sg (af u x) ∧ af u x < 18446744073709551616 ∧ RI b p c M k3 l3 w3 ∧ k ≤ k3 ∧ Kz b W w3 ∧ (lost = true → l3 = true) ∧ (lost = false → Gf M k false (i + 1) (af u x) k3 l3)):=(⟨hS,af_lt z4,z1,by omega,x4.trans z3,fun e=>z7 (x5 e),fun e=>gfp_next (x6 e) hi2 z8⟩ : _ ∧ _)
      clear HB x3 x4 x5 x6 z1 z2 z3 z5 z6 z7 z8
      rw [hU,← hS]
      clear hU hS
      generalize af u x = U at *
      go_wp2_with fail
      go_roundw
      case rel=>exact ⟨U,i + 1,k3,l3,_,rfl,by go_num,by omega,HN⟩
      case measure=>simp [intOf];omega
    · obtain rfl : i = 8:=by omega
      have HB:=im_fb x1 wr
      have HN : Hid (RI b p c M k' l' wr ∧ k ≤ k' ∧ Kz b W wr ∧ u < 18446744073709551616 ∧ (lost = true → l' = true) ∧ ∀ g rest,lost = false → g < 18446744073709551616 → M.drop k = db g 8 ++ rest → u = g ∧ k' = k + 8 ∧ l' = false):=(⟨x2,x3,x4,x1,x5,fun g rest e hg hm=>gf_end (x6 e) hg hm⟩ : _ ∧ _)
      clear HX x1 x2 x3 x4 x5 x6 HH
      go_wp2_with (go_at_call 151;refine HB.mono ?_;rintro e w3 ⟨rfl,rfl⟩)
      go_ret
      obtain ⟨q1,q2,q3,q4,q5,q6⟩:=(show _ ∧ _ ∧ _ ∧ _ ∧ _ ∧ _ from HN)
      exact ⟨_,k',l',rfl,q1,q2,q3,u,rfl,q4,q5,q6⟩
structure SW (b : Nat) (p : Option Addr) (c : Nat) (M : List UInt8) (k k' : Nat) (l' : Bool) (W : World) (g h : Nat) (V : Vv) (w : World) : Prop where
  rd : RI b p c M k' l' w
  le : k ≤ k'
  ks : Kx b W w
  g0 : W.heap.size ≤ g
  h0 : W.heap.size ≤ h
  gh : g ≠ h
  bg : w.heap[g]? = some (.cells #[.int .i64 0,.int .i64 0,.float .f64 0,.string ⟨#[]⟩,.int .i64 0] 92 (0,0))
  bh : w.heap[h]? = some (.cells #[.int .i64 V.k,.int .i64 V.m,.float .f64 V.g,.string V.x,.int .i64 V.r] 92 (0,0))
  rw : ∃ k0 l0,RI b p c M k0 l0 W
theorem SW.step {b : Nat} {p : Option Addr} {c : Nat} {M : List UInt8} {k k' k2 : Nat} {l' l2 : Bool} {W : World} {g h : Nat} {V : Vv} {w w2 : World} (s : SW b p c M k k' l' W g h V w) (r : RI b p c M k2 l2 w2) (hk : k' ≤ k2) (z : Kx b w w2) : SW b p c M k k2 l2 W g h V w2:=by
  obtain ⟨k0,l0,r0⟩:=s.rw
  have hb:=r0.lt
  exact ⟨r,Nat.le_trans s.le hk,s.ks.trans z,s.g0,s.h0,s.gh,(z.block g (Array.getElem?_eq_some_iff.1 s.bg).1 (by have:=s.g0;omega)).trans s.bg,(z.block h (Array.getElem?_eq_some_iff.1 s.bh).1 (by have:=s.h0;omega)).trans s.bh,s.rw⟩
theorem SW.set {b : Nat} {p : Option Addr} {c : Nat} {M : List UInt8} {k k' : Nat} {l' : Bool} {W : World} {g h : Nat} {V V2 : Vv} {w : World} {j : Nat} {v : Value} (s : SW b p c M k k' l' W g h V w) (hv : #[.int .i64 V.k,.int .i64 V.m,.float .f64 V.g,.string V.x,.int .i64 V.r].setIfInBounds j v = #[.int .i64 V2.k,.int .i64 V2.m,.float .f64 V2.g,.string V2.x,.int .i64 V2.r]) : SW b p c M k k' l' W g h V2 (w.setCell ⟨h,j,none⟩ v):=by
  obtain ⟨k0,l0,r0⟩:=s.rw
  have zk : Kz h w (w.setCell ⟨h,j,none⟩ v):=(Kz.refl h w).set j v
  exact ⟨r0.kg s.rd zk s.h0,s.le,s.ks.setNew s.h0 v,s.g0,s.h0,s.gh,(zk.block g s.gh).trans s.bg,by rw [set_known v s.bh,hv],s.rw⟩
theorem SW.out {b : Nat} {p : Option Addr} {c : Nat} {M : List UInt8} {k k' : Nat} {l' : Bool} {W : World} {g h : Nat} {V : Vv} {w : World} (s : SW b p c M k k' l' W g h V w) (v0 v1 v2 v3 v4 : Value) : RI b p c M k' l' (((((w.setCell ⟨g,0,none⟩ v0).setCell ⟨g,1,none⟩ v1).setCell ⟨g,2,none⟩ v2).setCell ⟨g,3,none⟩ v3).setCell ⟨g,4,none⟩ v4) ∧ Kx b W (((((w.setCell ⟨g,0,none⟩ v0).setCell ⟨g,1,none⟩ v1).setCell ⟨g,2,none⟩ v2).setCell ⟨g,3,none⟩ v3).setCell ⟨g,4,none⟩ v4):=by
  obtain ⟨k0,l0,r0⟩:=s.rw
  have g0:=s.g0
  have zk : Kz g w (((((w.setCell ⟨g,0,none⟩ v0).setCell ⟨g,1,none⟩ v1).setCell ⟨g,2,none⟩ v2).setCell ⟨g,3,none⟩ v3).setCell ⟨g,4,none⟩ v4):=(((((Kz.refl g w).set 0 v0).set 1 v1).set 2 v2).set 3 v3).set 4 v4
  exact ⟨r0.kg s.rd zk g0,((((s.ks.setNew g0 v0).setNew g0 v1).setNew g0 v2).setNew g0 v3).setNew g0 v4⟩
theorem exp_head {M : List UInt8} {k x k1 : Nat} {lost l1 : Bool} (HY : ∀ y,lost = false → M[k]? = some y → x = y.toNat ∧ k1 = k + 1 ∧ l1 = false) (e : lost = false) {y : Vv} {rest : List UInt8} (hy : Yok y) (hm : M.drop k = cb y ++ rest) : y.k = (x : Int) ∧ k1 = k + 1 ∧ l1 = false ∧ M.drop k1 = tlb y ++ rest ∧ (cb y).length = 1 + (tlb y).length:=ex_head (fun z hz=>HY z e hz) hy hm
def VX (M : List UInt8) (k : Nat) (lost : Bool) (V : Vv) (k' : Nat) (l' : Bool) : Prop:=Rn V.m ∧ Rn V.k ∧ V.g < 18446744073709551616 ∧ V.r = 0 ∧ (l' = false → k < k') ∧ k + V.x.size ≤ k' ∧ (lost = true → l' = true) ∧ ∀ y rest,lost = false → Yok y → M.drop k = cb y ++ rest → V = nv y ∧ k' = k + (cb y).length ∧ l' = false
theorem im_rvalue {b : Nat} {p : Option Addr} {c : Nat} {M : List UInt8} {k : Nat} {lost : Bool} {W : World} (h : RI b p c M k lost W) :
    Calls Tryz.prog 82 #[.pointer (some ⟨b,0,none⟩)] W (RU b p c M k W (fun v k' lost'=>∃ V : Vv,v = vv V ∧ VX M k lost V k' lost')):=by
  have HH : Hid (RI b p c M k lost W):=h
  have hst : ∀ (a : Addr) (n : Nat) (m : Mode) (w : World),(store a (.float .f64 n) m).run Tryz.prog w = stored Tryz.prog w a (.float .f64 n) m:=fun a n m w=>run_store _ _ _ _ _ rfl
  clear h
  go_enter Tryz.func82,Tryz.ntmps82
  go_upto_region 1 with fail
  have HB:=im_next ((show RI b p c M k lost W from HH).kb (kb_alloc 0 W (.cells #[.int .i64 0,.int .i64 0,.float .f64 0,.string ⟨#[]⟩,.int .i64 0] 92)))
  go_upto_region 2 with (go_at_call 124;refine HB.mono ?_;rintro e w1 ⟨v1,k1,l1,rfl,y1,y2,y3,x,rfl,y4,y5,y6,y7,y8⟩)
  clear HB
  obtain ⟨h,hh⟩ : ∃ h,h = w1.heap.size:=⟨_,rfl⟩
  obtain ⟨g,hg⟩ : ∃ g,g = W.heap.size:=⟨_,rfl⟩
  obtain ⟨w2,hw2⟩ : ∃ w2,w2 = w1.alloc (.cells #[.int .i64 (x : Int),.int .i64 0,.float .f64 0,.string ⟨#[]⟩,.int .i64 0] 92):=⟨_,rfl⟩
  have s2 : SW b p c M k k1 l1 W g h ⟨(x : Int),0,0,⟨#[]⟩,0⟩ w2:=by
    have hb:=(show RI b p c M k lost W from HH).lt
    have hz : w1.heap.size = W.heap.size + 1:=by rw [y3.size,World.size_alloc]
    have b0:=(y3.block W.heap.size (by omega)).trans (alloc_new W #[.int .i64 0,.int .i64 0,.float .f64 0,.string ⟨#[]⟩,.int .i64 0] 92)
    have kk : Kb 0 w1 w2:=by rw [hw2];exact kb_alloc 0 w1 _
    refine ⟨y1.kb kk,y2,((Kx.of_kb (kb_alloc 0 W _)).trans y3.ks).trans (Kx.of_kb kk),by omega,by omega,by omega,?_,?_,⟨k,lost,HH⟩⟩
    · rw [hg,kk.block _ (Nat.zero_le _) (by omega)];exact b0
    · rw [hh,hw2];exact alloc_new w1 _ _
  rw [← hw2,← hh,← hg]
  have HW : Hid (w2 = w1.alloc (.cells #[.int .i64 (x : Int),.int .i64 0,.float .f64 0,.string ⟨#[]⟩,.int .i64 0] 92)):=hw2
  have hX : (x : Int) < 256:=by omega
  have hgb : g ≠ h:=s2.gh
  have HY : Hid (k ≤ k1 ∧ (l1 = false → k < k1) ∧ (lost = true → l1 = true) ∧ ∀ y,lost = false → M[k]? = some y → x = y.toNat ∧ k1 = k + 1 ∧ l1 = false):=(⟨y2,fun e=>by have:=y5 e;omega,y7,y8⟩ : _ ∧ _)
  clear hw2 hh hg y1 y2 y3 y5 y6 y7 y8
  have d0 : w2.cell? ⟨h,0,none⟩ = some (.int .i64 (x : Int)):=cell_of s2.bh rfl
  by_cases c1 : x = 1 ∨ x = 2 ∨ x = 8
  · have HB:=im_rnum s2.rd
    have HS2 : Hid (SW b p c M k k1 l1 W g h ⟨(x : Int),0,0,⟨#[]⟩,0⟩ w2):=s2
    clear s2
    rcases c1 with rfl | rfl | rfl
    · go_upto_region 11 with (go_at_call 76;refine HB.mono ?_;rintro e w3 ⟨v3,k3,l3,rfl,z1,z2,z3,n,rfl,⟨z40,z41⟩,z5,z6,z7⟩;have s3:=SW.step HS2 z1 z2 z3.ks;have t1 : w3.cell? ⟨h,1,none⟩ = some (.int .i64 0):=cell_of s3.bh rfl;have t2 : w3.frozen? ⟨h,1,none⟩ = false:=frozen_of s3.bh)
      have s4 : SW b p c M k k3 l3 W g h (⟨((1 : Nat) : Int),n,0,⟨#[]⟩,0⟩ : Vv) (w3.setCell ⟨h,1,none⟩ (.int .i64 n)):=s3.set rfl
      have HE : Hid (VX M k lost (⟨((1 : Nat) : Int),n,0,⟨#[]⟩,0⟩ : Vv) k3 l3):=(⟨⟨z40,z41⟩,⟨by dsimp only;omega,by dsimp only;omega⟩,by dsimp only;omega,rfl,fun e=>by have:=z5 e;have:=HY.1;omega,by have:=HY.1;show k + 0 ≤ k3;omega,fun e=>z6 (HY.2.2.1 e),fun y rest e hy hm=>by
        obtain ⟨hk,p1,p2,p3,p4⟩:=exp_head HY.2.2.2 e hy hm
        have e1 : tlb y = nb y.m:=by unfold tlb;rw [if_pos (.inl hk)]
        rw [e1] at p3 p4
        obtain ⟨q1,q2,q3⟩:=z7 y.m rest p2 hy.m p3
        refine ⟨?_,by omega,q3⟩
        unfold nv
        rw [if_pos (.inl hk),if_neg (by rw [hk];decide),if_neg (by rw [hk];decide),hk,q1]⟩ : VX M k lost _ k3 l3)
      clear HB t1 t2 s3 d0 z1 z2 z3 z5 z6 z7
      generalize hw4 : w3.setCell ⟨h,1,none⟩ (.int .i64 n) = w4 at *
      clear hw4
      obtain ⟨e0,e1,e2,e3,e4⟩ : w4.cell? ⟨h,0,none⟩ = some (.int .i64 ((⟨((1 : Nat) : Int),n,0,⟨#[]⟩,0⟩ : Vv)).k) ∧ w4.cell? ⟨h,1,none⟩ = some (.int .i64 ((⟨((1 : Nat) : Int),n,0,⟨#[]⟩,0⟩ : Vv)).m) ∧ w4.cell? ⟨h,2,none⟩ = some (.float .f64 ((⟨((1 : Nat) : Int),n,0,⟨#[]⟩,0⟩ : Vv)).g) ∧ w4.cell? ⟨h,3,none⟩ = some (.string ((⟨((1 : Nat) : Int),n,0,⟨#[]⟩,0⟩ : Vv)).x) ∧ w4.cell? ⟨h,4,none⟩ = some (.int .i64 ((⟨((1 : Nat) : Int),n,0,⟨#[]⟩,0⟩ : Vv)).r):=⟨cell_of s4.bh rfl,cell_of s4.bh rfl,cell_of s4.bh rfl,cell_of s4.bh rfl,cell_of s4.bh rfl⟩
      obtain ⟨i0,i1,i2,i3,i4⟩ : w4.cell? ⟨g,0,none⟩ = some (.int .i64 0) ∧ w4.cell? ⟨g,1,none⟩ = some (.int .i64 0) ∧ w4.cell? ⟨g,2,none⟩ = some (.float .f64 0) ∧ w4.cell? ⟨g,3,none⟩ = some (.string ⟨#[]⟩) ∧ w4.cell? ⟨g,4,none⟩ = some (.int .i64 0):=⟨cell_of s4.bg rfl,cell_of s4.bg rfl,cell_of s4.bg rfl,cell_of s4.bg rfl,cell_of s4.bg rfl⟩
      have j0 : ∀ j : Nat,w4.frozen? ⟨g,j,none⟩ = false:=fun j=>frozen_of s4.bg
      have HS : Hid (SW b p c M k k3 l3 W g h (⟨((1 : Nat) : Int),n,0,⟨#[]⟩,0⟩ : Vv) w4):=s4
      clear s4
      dsimp only at e0 e1 e2 e3 e4
      go_wp2_with fail
      refine bodyPost_ret (by simp [results,Tryz.results82,go_sem,i0,i1,i2,i3,i4];rfl) rfl ?_
      obtain ⟨o1,o2⟩:=SW.out HS _ _ _ _ _
      exact ⟨_,k3,l3,rfl,o1,SW.le HS,o2,(⟨((1 : Nat) : Int),n,0,⟨#[]⟩,0⟩ : Vv),rfl,HE⟩
    · go_upto_region 11 with (go_at_call 76;refine HB.mono ?_;rintro e w3 ⟨v3,k3,l3,rfl,z1,z2,z3,n,rfl,⟨z40,z41⟩,z5,z6,z7⟩;have s3:=SW.step HS2 z1 z2 z3.ks;have t1 : w3.cell? ⟨h,1,none⟩ = some (.int .i64 0):=cell_of s3.bh rfl;have t2 : w3.frozen? ⟨h,1,none⟩ = false:=frozen_of s3.bh)
      have s4 : SW b p c M k k3 l3 W g h (⟨((2 : Nat) : Int),n,0,⟨#[]⟩,0⟩ : Vv) (w3.setCell ⟨h,1,none⟩ (.int .i64 n)):=s3.set rfl
      have HE : Hid (VX M k lost (⟨((2 : Nat) : Int),n,0,⟨#[]⟩,0⟩ : Vv) k3 l3):=(⟨⟨z40,z41⟩,⟨by dsimp only;omega,by dsimp only;omega⟩,by dsimp only;omega,rfl,fun e=>by have:=z5 e;have:=HY.1;omega,by have:=HY.1;show k + 0 ≤ k3;omega,fun e=>z6 (HY.2.2.1 e),fun y rest e hy hm=>by
        obtain ⟨hk,p1,p2,p3,p4⟩:=exp_head HY.2.2.2 e hy hm
        have e1 : tlb y = nb y.m:=by unfold tlb;rw [if_pos (.inr (.inl hk))]
        rw [e1] at p3 p4
        obtain ⟨q1,q2,q3⟩:=z7 y.m rest p2 hy.m p3
        refine ⟨?_,by omega,q3⟩
        unfold nv
        rw [if_pos (.inr (.inl hk)),if_neg (by rw [hk];decide),if_neg (by rw [hk];decide),hk,q1]⟩ : VX M k lost _ k3 l3)
      clear HB t1 t2 s3 d0 z1 z2 z3 z5 z6 z7
      generalize hw4 : w3.setCell ⟨h,1,none⟩ (.int .i64 n) = w4 at *
      clear hw4
      obtain ⟨e0,e1,e2,e3,e4⟩ : w4.cell? ⟨h,0,none⟩ = some (.int .i64 ((⟨((2 : Nat) : Int),n,0,⟨#[]⟩,0⟩ : Vv)).k) ∧ w4.cell? ⟨h,1,none⟩ = some (.int .i64 ((⟨((2 : Nat) : Int),n,0,⟨#[]⟩,0⟩ : Vv)).m) ∧ w4.cell? ⟨h,2,none⟩ = some (.float .f64 ((⟨((2 : Nat) : Int),n,0,⟨#[]⟩,0⟩ : Vv)).g) ∧ w4.cell? ⟨h,3,none⟩ = some (.string ((⟨((2 : Nat) : Int),n,0,⟨#[]⟩,0⟩ : Vv)).x) ∧ w4.cell? ⟨h,4,none⟩ = some (.int .i64 ((⟨((2 : Nat) : Int),n,0,⟨#[]⟩,0⟩ : Vv)).r):=⟨cell_of s4.bh rfl,cell_of s4.bh rfl,cell_of s4.bh rfl,cell_of s4.bh rfl,cell_of s4.bh rfl⟩
      obtain ⟨i0,i1,i2,i3,i4⟩ : w4.cell? ⟨g,0,none⟩ = some (.int .i64 0) ∧ w4.cell? ⟨g,1,none⟩ = some (.int .i64 0) ∧ w4.cell? ⟨g,2,none⟩ = some (.float .f64 0) ∧ w4.cell? ⟨g,3,none⟩ = some (.string ⟨#[]⟩) ∧ w4.cell? ⟨g,4,none⟩ = some (.int .i64 0):=⟨cell_of s4.bg rfl,cell_of s4.bg rfl,cell_of s4.bg rfl,cell_of s4.bg rfl,cell_of s4.bg rfl⟩
      have j0 : ∀ j : Nat,w4.frozen? ⟨g,j,none⟩ = false:=fun j=>frozen_of s4.bg
      have HS : Hid (SW b p c M k k3 l3 W g h (⟨((2 : Nat) : Int),n,0,⟨#[]⟩,0⟩ : Vv) w4):=s4
      clear s4
      dsimp only at e0 e1 e2 e3 e4
      go_wp2_with fail
      refine bodyPost_ret (by simp [results,Tryz.results82,go_sem,i0,i1,i2,i3,i4];rfl) rfl ?_
      obtain ⟨o1,o2⟩:=SW.out HS _ _ _ _ _
      exact ⟨_,k3,l3,rfl,o1,SW.le HS,o2,(⟨((2 : Nat) : Int),n,0,⟨#[]⟩,0⟩ : Vv),rfl,HE⟩
    · go_upto_region 11 with (go_at_call 76;refine HB.mono ?_;rintro e w3 ⟨v3,k3,l3,rfl,z1,z2,z3,n,rfl,⟨z40,z41⟩,z5,z6,z7⟩;have s3:=SW.step HS2 z1 z2 z3.ks;have t1 : w3.cell? ⟨h,1,none⟩ = some (.int .i64 0):=cell_of s3.bh rfl;have t2 : w3.frozen? ⟨h,1,none⟩ = false:=frozen_of s3.bh)
      have s4 : SW b p c M k k3 l3 W g h (⟨((8 : Nat) : Int),n,0,⟨#[]⟩,0⟩ : Vv) (w3.setCell ⟨h,1,none⟩ (.int .i64 n)):=s3.set rfl
      have HE : Hid (VX M k lost (⟨((8 : Nat) : Int),n,0,⟨#[]⟩,0⟩ : Vv) k3 l3):=(⟨⟨z40,z41⟩,⟨by dsimp only;omega,by dsimp only;omega⟩,by dsimp only;omega,rfl,fun e=>by have:=z5 e;have:=HY.1;omega,by have:=HY.1;show k + 0 ≤ k3;omega,fun e=>z6 (HY.2.2.1 e),fun y rest e hy hm=>by
        obtain ⟨hk,p1,p2,p3,p4⟩:=exp_head HY.2.2.2 e hy hm
        have e1 : tlb y = nb y.m:=by unfold tlb;rw [if_pos (.inr (.inr hk))]
        rw [e1] at p3 p4
        obtain ⟨q1,q2,q3⟩:=z7 y.m rest p2 hy.m p3
        refine ⟨?_,by omega,q3⟩
        unfold nv
        rw [if_pos (.inr (.inr hk)),if_neg (by rw [hk];decide),if_neg (by rw [hk];decide),hk,q1]⟩ : VX M k lost _ k3 l3)
      clear HB t1 t2 s3 d0 z1 z2 z3 z5 z6 z7
      generalize hw4 : w3.setCell ⟨h,1,none⟩ (.int .i64 n) = w4 at *
      clear hw4
      obtain ⟨e0,e1,e2,e3,e4⟩ : w4.cell? ⟨h,0,none⟩ = some (.int .i64 ((⟨((8 : Nat) : Int),n,0,⟨#[]⟩,0⟩ : Vv)).k) ∧ w4.cell? ⟨h,1,none⟩ = some (.int .i64 ((⟨((8 : Nat) : Int),n,0,⟨#[]⟩,0⟩ : Vv)).m) ∧ w4.cell? ⟨h,2,none⟩ = some (.float .f64 ((⟨((8 : Nat) : Int),n,0,⟨#[]⟩,0⟩ : Vv)).g) ∧ w4.cell? ⟨h,3,none⟩ = some (.string ((⟨((8 : Nat) : Int),n,0,⟨#[]⟩,0⟩ : Vv)).x) ∧ w4.cell? ⟨h,4,none⟩ = some (.int .i64 ((⟨((8 : Nat) : Int),n,0,⟨#[]⟩,0⟩ : Vv)).r):=⟨cell_of s4.bh rfl,cell_of s4.bh rfl,cell_of s4.bh rfl,cell_of s4.bh rfl,cell_of s4.bh rfl⟩
      obtain ⟨i0,i1,i2,i3,i4⟩ : w4.cell? ⟨g,0,none⟩ = some (.int .i64 0) ∧ w4.cell? ⟨g,1,none⟩ = some (.int .i64 0) ∧ w4.cell? ⟨g,2,none⟩ = some (.float .f64 0) ∧ w4.cell? ⟨g,3,none⟩ = some (.string ⟨#[]⟩) ∧ w4.cell? ⟨g,4,none⟩ = some (.int .i64 0):=⟨cell_of s4.bg rfl,cell_of s4.bg rfl,cell_of s4.bg rfl,cell_of s4.bg rfl,cell_of s4.bg rfl⟩
      have j0 : ∀ j : Nat,w4.frozen? ⟨g,j,none⟩ = false:=fun j=>frozen_of s4.bg
      have HS : Hid (SW b p c M k k3 l3 W g h (⟨((8 : Nat) : Int),n,0,⟨#[]⟩,0⟩ : Vv) w4):=s4
      clear s4
      dsimp only at e0 e1 e2 e3 e4
      go_wp2_with fail
      refine bodyPost_ret (by simp [results,Tryz.results82,go_sem,i0,i1,i2,i3,i4];rfl) rfl ?_
      obtain ⟨o1,o2⟩:=SW.out HS _ _ _ _ _
      exact ⟨_,k3,l3,rfl,o1,SW.le HS,o2,(⟨((8 : Nat) : Int),n,0,⟨#[]⟩,0⟩ : Vv),rfl,HE⟩
  · have n1 : ¬ (x : Int) = 1:=by omega
    have n2 : ¬ (x : Int) = 2:=by omega
    have n8 : ¬ (x : Int) = 8:=by omega
    by_cases c3 : x = 3
    · subst c3
      have HB:=im_rfloat s2.rd
      have HS2 : Hid (SW b p c M k k1 l1 W g h ⟨((3 : Nat) : Int),0,0,⟨#[]⟩,0⟩ w2):=s2
      clear s2 n1 n2 n8 c1
      go_upto_region 11 with (go_at_call 127;refine HB.mono ?_;rintro e w3 ⟨v3,k3,l3,rfl,z1,z2,z3,f,rfl,z4,z6,z7⟩;have s3:=SW.step HS2 z1 z2 z3.ks;have t1 : w3.cell? ⟨h,2,none⟩ = some (.float .f64 0):=cell_of s3.bh rfl;have t2 : w3.frozen? ⟨h,2,none⟩ = false:=frozen_of s3.bh)
      have s4 : SW b p c M k k3 l3 W g h (⟨((3 : Nat) : Int),0,f,⟨#[]⟩,0⟩ : Vv) (w3.setCell ⟨h,2,none⟩ (.float .f64 f)):=s3.set rfl
      have hgt : l3 = false → k < k3:=fun e=>by
        have h1 : l1 = false:=by
          by_cases h : l1 = true
          · have:=z6 h
            rw [e] at this
            cases this
          · simpa using h
        have:=HY.2.1 h1
        omega
      have HE : Hid (VX M k lost (⟨((3 : Nat) : Int),0,f,⟨#[]⟩,0⟩ : Vv) k3 l3):=(⟨⟨by dsimp only;omega,by dsimp only;omega⟩,⟨by dsimp only;omega,by dsimp only;omega⟩,z4,rfl,hgt,by have:=HY.1;show k + 0 ≤ k3;omega,fun e=>z6 (HY.2.2.1 e),fun y rest e hy hm=>by
        obtain ⟨hk,p1,p2,p3,p4⟩:=exp_head HY.2.2.2 e hy hm
        have e1 : tlb y = db y.g 8:=by unfold tlb;rw [if_neg (by rw [hk];decide),if_neg (by rw [hk];decide),if_pos (show y.k = 3 from hk)]
        rw [e1] at p3 p4
        rw [db_len] at p4
        obtain ⟨q1,q2,q3⟩:=z7 y.g rest p2 hy.g p3
        refine ⟨?_,by omega,q3⟩
        unfold nv
        rw [if_neg (by rw [hk];decide),if_pos (show y.k = 3 from hk),if_neg (by rw [hk];decide),hk,q1]⟩ : VX M k lost _ k3 l3)
      clear hgt HB t1 t2 s3 d0 z1 z2 z3 z6 z7
      generalize hw4 : w3.setCell ⟨h,2,none⟩ (.float .f64 f) = w4 at *
      clear hw4
      obtain ⟨e0,e1,e2,e3,e4⟩ : w4.cell? ⟨h,0,none⟩ = some (.int .i64 ((⟨((3 : Nat) : Int),0,f,⟨#[]⟩,0⟩ : Vv)).k) ∧ w4.cell? ⟨h,1,none⟩ = some (.int .i64 ((⟨((3 : Nat) : Int),0,f,⟨#[]⟩,0⟩ : Vv)).m) ∧ w4.cell? ⟨h,2,none⟩ = some (.float .f64 ((⟨((3 : Nat) : Int),0,f,⟨#[]⟩,0⟩ : Vv)).g) ∧ w4.cell? ⟨h,3,none⟩ = some (.string ((⟨((3 : Nat) : Int),0,f,⟨#[]⟩,0⟩ : Vv)).x) ∧ w4.cell? ⟨h,4,none⟩ = some (.int .i64 ((⟨((3 : Nat) : Int),0,f,⟨#[]⟩,0⟩ : Vv)).r):=⟨cell_of s4.bh rfl,cell_of s4.bh rfl,cell_of s4.bh rfl,cell_of s4.bh rfl,cell_of s4.bh rfl⟩
      obtain ⟨i0,i1,i2,i3,i4⟩ : w4.cell? ⟨g,0,none⟩ = some (.int .i64 0) ∧ w4.cell? ⟨g,1,none⟩ = some (.int .i64 0) ∧ w4.cell? ⟨g,2,none⟩ = some (.float .f64 0) ∧ w4.cell? ⟨g,3,none⟩ = some (.string ⟨#[]⟩) ∧ w4.cell? ⟨g,4,none⟩ = some (.int .i64 0):=⟨cell_of s4.bg rfl,cell_of s4.bg rfl,cell_of s4.bg rfl,cell_of s4.bg rfl,cell_of s4.bg rfl⟩
      have j0 : ∀ j : Nat,w4.frozen? ⟨g,j,none⟩ = false:=fun j=>frozen_of s4.bg
      have HS : Hid (SW b p c M k k3 l3 W g h (⟨((3 : Nat) : Int),0,f,⟨#[]⟩,0⟩ : Vv) w4):=s4
      clear s4
      dsimp only at e0 e1 e2 e3 e4
      go_wp2_with fail
      refine bodyPost_ret (by simp [results,Tryz.results82,go_sem,i0,i1,i2,i3,i4];rfl) rfl ?_
      obtain ⟨o1,o2⟩:=SW.out HS _ _ _ _ _
      exact ⟨_,k3,l3,rfl,o1,SW.le HS,o2,(⟨((3 : Nat) : Int),0,f,⟨#[]⟩,0⟩ : Vv),rfl,HE⟩
    · have n3 : ¬ (x : Int) = 3:=by omega
      by_cases c4 : x = 4
      · subst c4
        have HB:=im_rtext s2.rd
        have HS2 : Hid (SW b p c M k k1 l1 W g h ⟨((4 : Nat) : Int),0,0,⟨#[]⟩,0⟩ w2):=s2
        clear s2 n1 n2 n8 n3 c1 c3
        go_upto_region 11 with (go_at_call 77;refine HB.mono ?_;rintro e w3 ⟨v3,k3,l3,rfl,z1,z2,z3,X,rfl,z4,z5,z6,z7⟩;have s3:=SW.step HS2 z1 z2 z3.ks;have t1 : w3.cell? ⟨h,3,none⟩ = some (.string ⟨#[]⟩):=cell_of s3.bh rfl;have t2 : w3.frozen? ⟨h,3,none⟩ = false:=frozen_of s3.bh)
        have s4 : SW b p c M k k3 l3 W g h (⟨((4 : Nat) : Int),0,0,X,0⟩ : Vv) (w3.setCell ⟨h,3,none⟩ (.string X)):=s3.set rfl
        have HE : Hid (VX M k lost (⟨((4 : Nat) : Int),0,0,X,0⟩ : Vv) k3 l3):=(⟨⟨by dsimp only;omega,by dsimp only;omega⟩,⟨by dsimp only;omega,by dsimp only;omega⟩,by dsimp only;omega,rfl,fun e=>by have:=z5 e;have:=HY.1;omega,by have:=HY.1;show k + X.size ≤ k3;omega,fun e=>z6 (HY.2.2.1 e),fun y rest e hy hm=>by
          obtain ⟨hk,p1,p2,p3,p4⟩:=exp_head HY.2.2.2 e hy hm
          have e1 : tlb y = tb y.x:=by unfold tlb;rw [if_neg (by rw [hk];decide),if_pos (show y.k = 4 from hk)]
          rw [e1] at p3 p4
          obtain ⟨q1,q2,q3⟩:=z7 y.x rest p2 hy.x p3
          refine ⟨?_,by omega,q3⟩
          unfold nv
          rw [if_neg (by rw [hk];decide),if_neg (by rw [hk];decide),if_pos (show y.k = 4 from hk),hk,q1]⟩ : VX M k lost _ k3 l3)
        clear HB t1 t2 s3 d0 z1 z2 z3 z4 z5 z6 z7
        generalize hw4 : w3.setCell ⟨h,3,none⟩ (.string X) = w4 at *
        clear hw4
        obtain ⟨e0,e1,e2,e3,e4⟩ : w4.cell? ⟨h,0,none⟩ = some (.int .i64 ((⟨((4 : Nat) : Int),0,0,X,0⟩ : Vv)).k) ∧ w4.cell? ⟨h,1,none⟩ = some (.int .i64 ((⟨((4 : Nat) : Int),0,0,X,0⟩ : Vv)).m) ∧ w4.cell? ⟨h,2,none⟩ = some (.float .f64 ((⟨((4 : Nat) : Int),0,0,X,0⟩ : Vv)).g) ∧ w4.cell? ⟨h,3,none⟩ = some (.string ((⟨((4 : Nat) : Int),0,0,X,0⟩ : Vv)).x) ∧ w4.cell? ⟨h,4,none⟩ = some (.int .i64 ((⟨((4 : Nat) : Int),0,0,X,0⟩ : Vv)).r):=⟨cell_of s4.bh rfl,cell_of s4.bh rfl,cell_of s4.bh rfl,cell_of s4.bh rfl,cell_of s4.bh rfl⟩
        obtain ⟨i0,i1,i2,i3,i4⟩ : w4.cell? ⟨g,0,none⟩ = some (.int .i64 0) ∧ w4.cell? ⟨g,1,none⟩ = some (.int .i64 0) ∧ w4.cell? ⟨g,2,none⟩ = some (.float .f64 0) ∧ w4.cell? ⟨g,3,none⟩ = some (.string ⟨#[]⟩) ∧ w4.cell? ⟨g,4,none⟩ = some (.int .i64 0):=⟨cell_of s4.bg rfl,cell_of s4.bg rfl,cell_of s4.bg rfl,cell_of s4.bg rfl,cell_of s4.bg rfl⟩
        have j0 : ∀ j : Nat,w4.frozen? ⟨g,j,none⟩ = false:=fun j=>frozen_of s4.bg
        have HS : Hid (SW b p c M k k3 l3 W g h (⟨((4 : Nat) : Int),0,0,X,0⟩ : Vv) w4):=s4
        clear s4
        dsimp only at e0 e1 e2 e3 e4
        go_wp2_with fail
        refine bodyPost_ret (by simp [results,Tryz.results82,go_sem,i0,i1,i2,i3,i4];rfl) rfl ?_
        obtain ⟨o1,o2⟩:=SW.out HS _ _ _ _ _
        exact ⟨_,k3,l3,rfl,o1,SW.le HS,o2,(⟨((4 : Nat) : Int),0,0,X,0⟩ : Vv),rfl,HE⟩
      · have n4 : ¬ (x : Int) = 4:=by omega
        have s4:=s2
        have HE : Hid (VX M k lost (⟨(x : Int),0,0,⟨#[]⟩,0⟩ : Vv) k1 l1):=(⟨⟨by dsimp only;omega,by dsimp only;omega⟩,⟨by dsimp only;omega,by dsimp only;omega⟩,by dsimp only;omega,rfl,HY.2.1,by have:=HY.1;show k + 0 ≤ k1;omega,HY.2.2.1,fun y rest e hy hm=>by
          obtain ⟨hk,p1,p2,p3,p4⟩:=exp_head HY.2.2.2 e hy hm
          have e1 : tlb y = []:=by unfold tlb;rw [if_neg (by omega),if_neg (by omega),if_neg (by omega)]
          rw [e1] at p4
          refine ⟨?_,by simp at p4;omega,p2⟩
          unfold nv
          rw [if_neg (by omega),if_neg (by omega),if_neg (by omega),hk]⟩ : VX M k lost _ k1 l1)
        clear s2 d0 c1
        generalize w2 = w4 at *
        obtain ⟨e0,e1,e2,e3,e4⟩ : w4.cell? ⟨h,0,none⟩ = some (.int .i64 ((⟨(x : Int),0,0,⟨#[]⟩,0⟩ : Vv)).k) ∧ w4.cell? ⟨h,1,none⟩ = some (.int .i64 ((⟨(x : Int),0,0,⟨#[]⟩,0⟩ : Vv)).m) ∧ w4.cell? ⟨h,2,none⟩ = some (.float .f64 ((⟨(x : Int),0,0,⟨#[]⟩,0⟩ : Vv)).g) ∧ w4.cell? ⟨h,3,none⟩ = some (.string ((⟨(x : Int),0,0,⟨#[]⟩,0⟩ : Vv)).x) ∧ w4.cell? ⟨h,4,none⟩ = some (.int .i64 ((⟨(x : Int),0,0,⟨#[]⟩,0⟩ : Vv)).r):=⟨cell_of s4.bh rfl,cell_of s4.bh rfl,cell_of s4.bh rfl,cell_of s4.bh rfl,cell_of s4.bh rfl⟩
        obtain ⟨i0,i1,i2,i3,i4⟩ : w4.cell? ⟨g,0,none⟩ = some (.int .i64 0) ∧ w4.cell? ⟨g,1,none⟩ = some (.int .i64 0) ∧ w4.cell? ⟨g,2,none⟩ = some (.float .f64 0) ∧ w4.cell? ⟨g,3,none⟩ = some (.string ⟨#[]⟩) ∧ w4.cell? ⟨g,4,none⟩ = some (.int .i64 0):=⟨cell_of s4.bg rfl,cell_of s4.bg rfl,cell_of s4.bg rfl,cell_of s4.bg rfl,cell_of s4.bg rfl⟩
        have j0 : ∀ j : Nat,w4.frozen? ⟨g,j,none⟩ = false:=fun j=>frozen_of s4.bg
        have HS : Hid (SW b p c M k k1 l1 W g h (⟨(x : Int),0,0,⟨#[]⟩,0⟩ : Vv) w4):=s4
        clear s4
        dsimp only at e0 e1 e2 e3 e4
        go_wp2_with fail
        refine bodyPost_ret (by simp [results,Tryz.results82,go_sem,i0,i1,i2,i3,i4];rfl) rfl ?_
        obtain ⟨o1,o2⟩:=SW.out HS _ _ _ _ _
        exact ⟨_,k1,l1,rfl,o1,SW.le HS,o2,(⟨(x : Int),0,0,⟨#[]⟩,0⟩ : Vv),rfl,HE⟩
end Go.Proofs.YtnmeemjoodoalaaGreatDoor.Fo
