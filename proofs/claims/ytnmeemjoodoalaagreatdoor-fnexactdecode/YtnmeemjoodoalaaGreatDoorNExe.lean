import Derived.Test.YtnmeemjoodoalaaGreatDoorNEag
set_option maxHeartbeats 4000000
namespace Go.Proofs.YtnmeemjoodoalaaGreatDoor.Fo
open Go.ChangeShapes Go.WideShapes Go.ChangeAt Go.RowKit
set_option linter.unusedVariables false
set_option maxRecDepth 100000
structure Kx (b : Nat) (W w' : World) : Prop where
  os : w'.os = W.os
  output : w'.output = W.output
  size : W.heap.size ≤ w'.heap.size
  block : ∀ k,k < W.heap.size → k ≠ b → w'.heap[k]? = W.heap[k]?
theorem Kz.ks {b : Nat} {W w' : World} (h : Kz b W w') : Kx b W w':=⟨h.os,h.output,Nat.le_of_eq h.size.symm,fun k _ hk=>h.block k hk⟩
theorem Kx.trans {b : Nat} {W w1 w2 : World} (h : Kx b W w1) (k : Kx b w1 w2) : Kx b W w2:=⟨k.os.trans h.os,k.output.trans h.output,Nat.le_trans h.size k.size,fun i h1 h2=>(k.block i (Nat.lt_of_lt_of_le h1 h.size) h2).trans (h.block i h1 h2)⟩
theorem Kx.of_kb {b : Nat} {W w' : World} (h : Kb 0 W w') : Kx b W w':=⟨h.os,h.output,h.size,fun k hk _=>h.block k (Nat.zero_le _) hk⟩
theorem Kx.setNew {b : Nat} {W w' : World} (h : Kx b W w') {p : Addr} (hp : W.heap.size ≤ p.block) (v : Value) : Kx b W (w'.setCell p v) :=
  ⟨h.os,h.output,by simpa [World.setCell] using h.size,fun k hk hb=>(Below.heap_setCell w' _ _ _ (by omega)).trans (h.block k hk hb)⟩
theorem RD.lt {b : Nat} {a : Addr} {c : Nat} {M : List UInt8} {k : Nat} {bad : Bool} {W : World} (h : RD b a c M k bad W) : b < W.heap.size:=(Array.getElem?_eq_some_iff.1 h.blk).1
theorem RD.ks {b : Nat} {a : Addr} {c : Nat} {M : List UInt8} {k : Nat} {bad : Bool} {W w' : World} (h : RD b a c M k bad W) (z : Kx b W w') (hb : w'.heap[b]? = W.heap[b]?) : RD b a c M k bad w' :=
  ⟨hb.trans h.blk,h.le,h.sz,h.cap,h.ne,fun i x hx=>by
    have hr:=h.row i x hx
    have hl : a.block < W.heap.size:=by have:=lt_of_cell' hr;rw [add_block] at this;exact this
    exact (World.cell?_of_block (by rw [add_block];exact z.block _ hl h.ne)).trans hr⟩
theorem RD.kb {b : Nat} {a : Addr} {c : Nat} {M : List UInt8} {k : Nat} {bad : Bool} {W w' : World} (h : RD b a c M k bad W) (z : Kb 0 W w') : RD b a c M k bad w':=h.ks (Kx.of_kb z) (z.block _ (Nat.zero_le _) h.lt)
def RT (b : Nat) (a : Addr) (c : Nat) (M : List UInt8) (k : Nat) (W : World) (Q : Value → Nat → Bool → Prop) (e : Ending) (w' : World) : Prop:=∃ v k' bad',e = .returned v ∧ RD b a c M k' bad' w' ∧ k ≤ k' ∧ Kx b W w' ∧ Q v k' bad'
def FlC : Prop:=∀ (u : Nat),u < 18446744073709551616 → ∀ W : World,Calls Tryz.prog 122 #[.int .u64 (u : Int)] W fun e w'=>∃ f : Nat,e = .returned (.float .f64 f) ∧ f < 18446744073709551616 ∧ Kb 0 W w' ∧ (FloatKind.f64.format.order u u = some .eq → f = u)
def nv (y : Vv) : Vv:=⟨y.k,if y.k = 1 ∨ y.k = 2 ∨ y.k = 8 then y.m else 0,if y.k = 3 then y.g else 0,if y.k = 4 then y.x else ⟨#[]⟩,0⟩
structure Yok (y : Vv) : Prop where
  k0 : 0 ≤ y.k
  k1 : y.k < 256
  m : Rn y.m
  g : y.g < 18446744073709551616
  n : y.k = 3 → FloatKind.f64.format.order y.g y.g = some .eq
  x : y.x.size ≤ 9223372036854775807
structure SV (b : Nat) (a : Addr) (c : Nat) (M : List UInt8) (k k' : Nat) (bad' : Bool) (W : World) (g h : Nat) (V : Vv) (w : World) : Prop where
  rd : RD b a c M k' bad' w
  le : k ≤ k'
  ks : Kx b W w
  g0 : W.heap.size ≤ g
  h0 : W.heap.size ≤ h
  gh : g ≠ h
  bg : w.heap[g]? = some (.cells #[.int .i64 0,.int .i64 0,.float .f64 0,.string ⟨#[]⟩,.int .i64 0] 92 (0,0))
  bh : w.heap[h]? = some (.cells #[.int .i64 V.k,.int .i64 V.m,.float .f64 V.g,.string V.x,.int .i64 V.r] 92 (0,0))
  bb : b < W.heap.size
  ab : a.block < W.heap.size
theorem SV.step {b : Nat} {a : Addr} {c : Nat} {M : List UInt8} {k k' k2 : Nat} {bad' bad2 : Bool} {W : World} {g h : Nat} {V : Vv} {w w2 : World} (s : SV b a c M k k' bad' W g h V w) (r : RD b a c M k2 bad2 w2) (hk : k' ≤ k2) (z : Kx b w w2) : SV b a c M k k2 bad2 W g h V w2 :=
  ⟨r,Nat.le_trans s.le hk,s.ks.trans z,s.g0,s.h0,s.gh,(z.block g (Array.getElem?_eq_some_iff.1 s.bg).1 (by have:=s.g0;have:=s.bb;omega)).trans s.bg,(z.block h (Array.getElem?_eq_some_iff.1 s.bh).1 (by have:=s.h0;have:=s.bb;omega)).trans s.bh,s.bb,s.ab⟩
theorem SV.set {b : Nat} {a : Addr} {c : Nat} {M : List UInt8} {k k' : Nat} {bad' : Bool} {W : World} {g h : Nat} {V V2 : Vv} {w : World} {j : Nat} {v : Value} (s : SV b a c M k k' bad' W g h V w) (hv : #[.int .i64 V.k,.int .i64 V.m,.float .f64 V.g,.string V.x,.int .i64 V.r].setIfInBounds j v = #[.int .i64 V2.k,.int .i64 V2.m,.float .f64 V2.g,.string V2.x,.int .i64 V2.r]) : SV b a c M k k' bad' W g h V2 (w.setCell ⟨h,j,none⟩ v):=by
  have hb:=s.bb
  have h0:=s.h0
  have zk : Kz h w (w.setCell ⟨h,j,none⟩ v):=(Kz.refl h w).set j v
  refine ⟨⟨(zk.block b (by omega)).trans s.rd.blk,s.rd.le,s.rd.sz,s.rd.cap,s.rd.ne,fun i x hx=>?_⟩,s.le,s.ks.setNew h0 v,s.g0,h0,s.gh,(zk.block g s.gh).trans s.bg,by rw [set_known v s.bh,hv],hb,s.ab⟩
  have ha:=s.ab
  exact (World.cell?_of_block (by rw [add_block];exact zk.block _ (by omega))).trans (s.rd.row i x hx)
def Gf (M : List UInt8) (k1 : Nat) (bad1 : Bool) (i u k' : Nat) (bad' : Bool) : Prop:=∀ (g : Nat) rest,g < 18446744073709551616 → M.drop k1 = db g 8 ++ rest → M.drop k' = (db g 8).drop i ++ rest ∧ u = g / 2 ^ (64 - 8 * i) ∧ k' = k1 + i ∧ bad' = bad1
def af (u x : Nat) : Nat:=(u * 256 % 18446744073709551616) ||| x
theorem af_lt {u x : Nat} (hx : x < 256) : af u x < 18446744073709551616:=Nat.or_lt_two_pow (n:=64) (Nat.mod_lt _ (by decide)) (by omega)
theorem af_bits (u x : Nat) (hx : x < 256) : bits BinOp.or IntKind.u64 (IntKind.u64.wrap ((u : Int) * 256)) (x : Int) = (af u x : Int):=by
  have e : IntKind.u64.wrap ((u : Int) * 256) = ((u * 256 % 18446744073709551616 : Nat) : Int):=by rw [wrap_u64,Int.natCast_emod,Int.natCast_mul];rfl
  rw [e,Go.u64_or_nat _ _ (Nat.mod_lt _ (by decide)) (by omega)]
  rfl
theorem db_drop (g : Nat) : ∀ i,i < 8 → (db g 8).drop i = UInt8.ofNat (g / 2 ^ (56 - 8 * i)) :: (db g 8).drop (i + 1):=by
  intro i hi
  match i,hi with
  | 0,_=>rfl
  | 1,_=>rfl
  | 2,_=>rfl
  | 3,_=>rfl
  | 4,_=>rfl
  | 5,_=>rfl
  | 6,_=>rfl
  | 7,_=>rfl
theorem gf_next {M : List UInt8} {k1 : Nat} {bad1 : Bool} {i u k' : Nat} {bad' : Bool} {x k2 : Nat} {bad2 : Bool} (h : Gf M k1 bad1 i u k' bad') (hi : i < 8) (hb : ∀ y,M[k']? = some y → x = y.toNat ∧ k2 = k' + 1 ∧ bad2 = bad') : Gf M k1 bad1 (i + 1) (af u x) k2 bad2:=by
  intro g rest hg hm
  obtain ⟨g1,g2,g3,g4⟩:=h g rest hg hm
  rw [db_drop g i hi,List.cons_append] at g1
  obtain ⟨q1,q2⟩:=drop_cons g1
  obtain ⟨p1,p2,p3⟩:=hb _ q1
  refine ⟨by rw [p2];exact q2,?_,by omega,p3.trans g4⟩
  rw [UInt8.toNat_ofNat'] at p1
  have e : 2 ^ (64 - 8 * i) = 2 ^ (56 - 8 * i) * 256:=by rw [show 64 - 8 * i = (56 - 8 * i) + 8 by omega,Nat.pow_add]
  rw [e,← Nat.div_div_eq_div_mul] at g2
  have hle : g / 2 ^ (56 - 8 * i) ≤ g:=Nat.div_le_self _ _
  rw [show 64 - 8 * (i + 1) = 56 - 8 * i by omega]
  generalize g / 2 ^ (56 - 8 * i) = q at *
  unfold af
  have hx : x < 256:=by rw [p1];exact Nat.mod_lt _ (by decide)
  have hp : x = q % 256:=p1
  rw [Nat.mod_eq_of_lt (by omega),Nat.mul_comm,← Nat.two_pow_add_eq_or_of_lt (i:=8) hx]
  omega
theorem gf_end {M : List UInt8} {k1 : Nat} {bad1 : Bool} {u k' : Nat} {bad' : Bool} (h : Gf M k1 bad1 8 u k' bad') {g : Nat} {rest : List UInt8} (hg : g < 18446744073709551616) (hm : M.drop k1 = db g 8 ++ rest) : u = g ∧ k' = k1 + 8 ∧ bad' = bad1:=by
  obtain ⟨g1,g2,g3,g4⟩:=h g rest hg hm
  exact ⟨by rw [g2];exact Nat.div_one _,g3,g4⟩
theorem gf_zero (M : List UInt8) (k1 : Nat) (bad1 : Bool) : Gf M k1 bad1 0 0 k1 bad1:=fun g rest hg hm=>⟨hm,by rw [Nat.div_eq_of_lt];exact hg,rfl,rfl⟩
def tlb (v : Vv) : List UInt8:=if v.k = 1 ∨ v.k = 2 ∨ v.k = 8 then nb v.m else if v.k = 4 then tb v.x else if v.k = 3 then db v.g 8 else []
theorem ex_head {M : List UInt8} {k x k1 : Nat} {bad bad1 : Bool} (HY : ∀ y,M[k]? = some y → x = y.toNat ∧ k1 = k + 1 ∧ bad1 = bad) {y : Vv} {rest : List UInt8} (hy : Yok y) (hm : M.drop k = cb y ++ rest) : y.k = (x : Int) ∧ k1 = k + 1 ∧ bad1 = bad ∧ M.drop k1 = tlb y ++ rest ∧ (cb y).length = 1 + (tlb y).length:=by
  have e : cb y = UInt8.ofNat y.k.toNat :: tlb y:=rfl
  rw [e,List.cons_append] at hm
  obtain ⟨q1,q2⟩:=drop_cons hm
  obtain ⟨p1,p2,p3⟩:=HY _ q1
  have h0:=hy.k0
  have h1:=hy.k1
  rw [tn (by omega)] at p1
  exact ⟨by omega,p2,p3,by rw [p2];exact q2,by rw [e,List.length_cons];omega⟩
theorem SV.out {b : Nat} {a : Addr} {c : Nat} {M : List UInt8} {k k' : Nat} {bad' : Bool} {W : World} {g h : Nat} {V : Vv} {w : World} (s : SV b a c M k k' bad' W g h V w) (v0 v1 v2 v3 v4 : Value) : RD b a c M k' bad' (((((w.setCell ⟨g,0,none⟩ v0).setCell ⟨g,1,none⟩ v1).setCell ⟨g,2,none⟩ v2).setCell ⟨g,3,none⟩ v3).setCell ⟨g,4,none⟩ v4) ∧ Kx b W (((((w.setCell ⟨g,0,none⟩ v0).setCell ⟨g,1,none⟩ v1).setCell ⟨g,2,none⟩ v2).setCell ⟨g,3,none⟩ v3).setCell ⟨g,4,none⟩ v4):=by
  have hb:=s.bb
  have g0:=s.g0
  have ha:=s.ab
  have zk : Kz g w (((((w.setCell ⟨g,0,none⟩ v0).setCell ⟨g,1,none⟩ v1).setCell ⟨g,2,none⟩ v2).setCell ⟨g,3,none⟩ v3).setCell ⟨g,4,none⟩ v4):=(((((Kz.refl g w).set 0 v0).set 1 v1).set 2 v2).set 3 v3).set 4 v4
  exact ⟨⟨(zk.block b (by omega)).trans s.rd.blk,s.rd.le,s.rd.sz,s.rd.cap,s.rd.ne,fun i x hx=>(World.cell?_of_block (by rw [add_block];exact zk.block _ (by omega))).trans (s.rd.row i x hx)⟩,((((s.ks.setNew g0 v0).setNew g0 v1).setNew g0 v2).setNew g0 v3).setNew g0 v4⟩
theorem rd_const (HFl : FlC) {b : Nat} {a : Addr} {c : Nat} {M : List UInt8} {k : Nat} {bad : Bool} {W : World} (h : RD b a c M k bad W) (ha : a.block < W.heap.size) :
    Calls Tryz.prog 74 #[.pointer (some ⟨b,0,none⟩)] W (RT b a c M k W (fun v k' bad'=>∃ V : Vv,v = vv V ∧ Rn V.m ∧ Rn V.k ∧ V.g < 18446744073709551616 ∧ V.r = 0 ∧ (k' = k ∨ bad = true → bad' = true) ∧ k + V.x.size ≤ k' ∧ ∀ y rest,Yok y → M.drop k = cb y ++ rest → V = nv y ∧ k' = k + (cb y).length ∧ bad' = bad)):=by
  have HF : Hid FlC:=HFl
  have HH : Hid (RD b a c M k bad W):=h
  have hst : ∀ (a : Addr) (n : Nat) (m : Mode) (w : World),(store a (.float .f64 n) m).run Tryz.prog w = stored Tryz.prog w a (.float .f64 n) m:=fun a n m w=>run_store _ _ _ _ _ rfl
  clear HFl h
  go_enter Tryz.func74,Tryz.ntmps74
  go_upto_region 1 with fail
  have HB:=rd_byte ((show RD b a c M k bad W from HH).kb (kb_alloc 0 W (.cells #[.int .i64 0,.int .i64 0,.float .f64 0,.string ⟨#[]⟩,.int .i64 0] 92)))
  go_upto_region 2 with (go_at_call 73;refine HB.mono ?_;rintro e w1 ⟨v1,k1,bad1,rfl,y1,y2,y3,x,rfl,y4,y5,y6⟩)
  clear HB
  obtain ⟨h,hh⟩ : ∃ h,h = w1.heap.size:=⟨_,rfl⟩
  obtain ⟨g,hg⟩ : ∃ g,g = W.heap.size:=⟨_,rfl⟩
  obtain ⟨w2,hw2⟩ : ∃ w2,w2 = w1.alloc (.cells #[.int .i64 (x : Int),.int .i64 0,.float .f64 0,.string ⟨#[]⟩,.int .i64 0] 92):=⟨_,rfl⟩
  have s2 : SV b a c M k k1 bad1 W g h ⟨(x : Int),0,0,⟨#[]⟩,0⟩ w2:=by
    have hb:=(show RD b a c M k bad W from HH).lt
    have hz : w1.heap.size = W.heap.size + 1:=by rw [y3.size,World.size_alloc]
    have b0:=(y3.block W.heap.size (by omega)).trans (alloc_new W #[.int .i64 0,.int .i64 0,.float .f64 0,.string ⟨#[]⟩,.int .i64 0] 92)
    have kk : Kb 0 w1 w2:=by rw [hw2];exact kb_alloc 0 w1 _
    refine ⟨y1.kb kk,y2,((Kx.of_kb (kb_alloc 0 W _)).trans y3.ks).trans (Kx.of_kb kk),by omega,by omega,by omega,?_,?_,hb,ha⟩
    · rw [hg,kk.block _ (Nat.zero_le _) (by omega)];exact b0
    · rw [hh,hw2];exact alloc_new w1 _ _
  rw [← hw2,← hh,← hg]
  have HW : Hid (w2 = w1.alloc (.cells #[.int .i64 (x : Int),.int .i64 0,.float .f64 0,.string ⟨#[]⟩,.int .i64 0] 92)):=hw2
  have hX : (x : Int) < 256:=by omega
  have hgb : g ≠ h:=s2.gh
  have HY : Hid ((k1 = k ∨ bad = true → bad1 = true) ∧ ∀ y,M[k]? = some y → x = y.toNat ∧ k1 = k + 1 ∧ bad1 = bad):=(⟨y5,y6⟩ : _ ∧ _)
  clear hw2 hh hg y1 y2 y3 y5 y6
  have d0 : w2.cell? ⟨h,0,none⟩ = some (.int .i64 (x : Int)):=cell_of s2.bh rfl
  by_cases c1 : x = 1 ∨ x = 2 ∨ x = 8
  · have HB:=rd_num s2.rd
    have HS2 : Hid (SV b a c M k k1 bad1 W g h ⟨(x : Int),0,0,⟨#[]⟩,0⟩ w2):=s2
    clear s2
    rcases c1 with rfl | rfl | rfl
    · go_upto_region 16 with (go_at_call 71;refine HB.mono ?_;rintro e w3 ⟨v3,k3,bad3,rfl,z1,z2,z3,n,rfl,⟨z40,z41⟩,z5,z6⟩;have s3:=SV.step HS2 z1 z2 z3.ks;have t1 : w3.cell? ⟨h,1,none⟩ = some (.int .i64 0):=cell_of s3.bh rfl;have t2 : w3.frozen? ⟨h,1,none⟩ = false:=frozen_of s3.bh)
      have s4 : SV b a c M k k3 bad3 W g h (⟨((1 : Nat) : Int),n,0,⟨#[]⟩,0⟩ : Vv) (w3.setCell ⟨h,1,none⟩ (.int .i64 n)):=s3.set rfl
      have HE : Hid (k1 ≤ k3 ∧ (k3 = k ∨ bad = true → bad3 = true) ∧ ∀ y rest,Yok y → M.drop k = cb y ++ rest → (⟨((1 : Nat) : Int),n,0,⟨#[]⟩,0⟩ : Vv) = nv y ∧ k3 = k + (cb y).length ∧ bad3 = bad):=(⟨z2,fun e=>z5 (e.elim (fun e=>.inl (by have:=(show SV b a c M k k1 bad1 W g h _ w2 from HS2).le;omega)) (fun e=>.inr (HY.1 (.inr e)))),fun y rest hy hm=>by
        obtain ⟨hk,p1,p2,p3,p4⟩:=ex_head HY.2 hy hm
        have e1 : tlb y = nb y.m:=by unfold tlb;rw [if_pos (.inl hk)]
        rw [e1] at p3 p4
        obtain ⟨q1,q2,q3⟩:=z6 y.m rest hy.m.1 hy.m.2 p3
        refine ⟨?_,by omega,q3.trans p2⟩
        unfold nv
        rw [if_pos (.inl hk),if_neg (by rw [hk];decide),if_neg (by rw [hk];decide),hk,q1]⟩ : _ ∧ _)
      clear HB t1 t2 s3 d0 z1 z2 z3 z5 z6
      generalize hw4 : w3.setCell ⟨h,1,none⟩ (.int .i64 n) = w4 at *
      clear hw4
      obtain ⟨e0,e1,e2,e3,e4⟩ : w4.cell? ⟨h,0,none⟩ = some (.int .i64 ((⟨((1 : Nat) : Int),n,0,⟨#[]⟩,0⟩ : Vv)).k) ∧ w4.cell? ⟨h,1,none⟩ = some (.int .i64 ((⟨((1 : Nat) : Int),n,0,⟨#[]⟩,0⟩ : Vv)).m) ∧ w4.cell? ⟨h,2,none⟩ = some (.float .f64 ((⟨((1 : Nat) : Int),n,0,⟨#[]⟩,0⟩ : Vv)).g) ∧ w4.cell? ⟨h,3,none⟩ = some (.string ((⟨((1 : Nat) : Int),n,0,⟨#[]⟩,0⟩ : Vv)).x) ∧ w4.cell? ⟨h,4,none⟩ = some (.int .i64 ((⟨((1 : Nat) : Int),n,0,⟨#[]⟩,0⟩ : Vv)).r):=⟨cell_of s4.bh rfl,cell_of s4.bh rfl,cell_of s4.bh rfl,cell_of s4.bh rfl,cell_of s4.bh rfl⟩
      obtain ⟨i0,i1,i2,i3,i4⟩ : w4.cell? ⟨g,0,none⟩ = some (.int .i64 0) ∧ w4.cell? ⟨g,1,none⟩ = some (.int .i64 0) ∧ w4.cell? ⟨g,2,none⟩ = some (.float .f64 0) ∧ w4.cell? ⟨g,3,none⟩ = some (.string ⟨#[]⟩) ∧ w4.cell? ⟨g,4,none⟩ = some (.int .i64 0):=⟨cell_of s4.bg rfl,cell_of s4.bg rfl,cell_of s4.bg rfl,cell_of s4.bg rfl,cell_of s4.bg rfl⟩
      have j0 : ∀ j : Nat,w4.frozen? ⟨g,j,none⟩ = false:=fun j=>frozen_of s4.bg
      have HS : Hid (SV b a c M k k3 bad3 W g h ((⟨((1 : Nat) : Int),n,0,⟨#[]⟩,0⟩ : Vv)) w4):=s4
      clear s4
      dsimp only at e0 e1 e2 e3 e4
      go_wp2_with fail
      refine bodyPost_ret (by simp [results,Tryz.results74,go_sem,i0,i1,i2,i3,i4];rfl) rfl ?_
      obtain ⟨o1,o2⟩:=SV.out HS _ _ _ _ _
      exact ⟨_,k3,bad3,rfl,o1,SV.le HS,o2,(⟨((1 : Nat) : Int),n,0,⟨#[]⟩,0⟩ : Vv),rfl,⟨z40,z41⟩,⟨by dsimp only;omega,by dsimp only;omega⟩,by dsimp only;omega,rfl,HE.2.1,(SV.le HS),HE.2.2⟩
    · go_upto_region 16 with (go_at_call 71;refine HB.mono ?_;rintro e w3 ⟨v3,k3,bad3,rfl,z1,z2,z3,n,rfl,⟨z40,z41⟩,z5,z6⟩;have s3:=SV.step HS2 z1 z2 z3.ks;have t1 : w3.cell? ⟨h,1,none⟩ = some (.int .i64 0):=cell_of s3.bh rfl;have t2 : w3.frozen? ⟨h,1,none⟩ = false:=frozen_of s3.bh)
      have s4 : SV b a c M k k3 bad3 W g h (⟨((2 : Nat) : Int),n,0,⟨#[]⟩,0⟩ : Vv) (w3.setCell ⟨h,1,none⟩ (.int .i64 n)):=s3.set rfl
      have HE : Hid (k1 ≤ k3 ∧ (k3 = k ∨ bad = true → bad3 = true) ∧ ∀ y rest,Yok y → M.drop k = cb y ++ rest → (⟨((2 : Nat) : Int),n,0,⟨#[]⟩,0⟩ : Vv) = nv y ∧ k3 = k + (cb y).length ∧ bad3 = bad):=(⟨z2,fun e=>z5 (e.elim (fun e=>.inl (by have:=(show SV b a c M k k1 bad1 W g h _ w2 from HS2).le;omega)) (fun e=>.inr (HY.1 (.inr e)))),fun y rest hy hm=>by
        obtain ⟨hk,p1,p2,p3,p4⟩:=ex_head HY.2 hy hm
        have e1 : tlb y = nb y.m:=by unfold tlb;rw [if_pos (.inr (.inl hk))]
        rw [e1] at p3 p4
        obtain ⟨q1,q2,q3⟩:=z6 y.m rest hy.m.1 hy.m.2 p3
        refine ⟨?_,by omega,q3.trans p2⟩
        unfold nv
        rw [if_pos (.inr (.inl hk)),if_neg (by rw [hk];decide),if_neg (by rw [hk];decide),hk,q1]⟩ : _ ∧ _)
      clear HB t1 t2 s3 d0 z1 z2 z3 z5 z6
      generalize hw4 : w3.setCell ⟨h,1,none⟩ (.int .i64 n) = w4 at *
      clear hw4
      obtain ⟨e0,e1,e2,e3,e4⟩ : w4.cell? ⟨h,0,none⟩ = some (.int .i64 ((⟨((2 : Nat) : Int),n,0,⟨#[]⟩,0⟩ : Vv)).k) ∧ w4.cell? ⟨h,1,none⟩ = some (.int .i64 ((⟨((2 : Nat) : Int),n,0,⟨#[]⟩,0⟩ : Vv)).m) ∧ w4.cell? ⟨h,2,none⟩ = some (.float .f64 ((⟨((2 : Nat) : Int),n,0,⟨#[]⟩,0⟩ : Vv)).g) ∧ w4.cell? ⟨h,3,none⟩ = some (.string ((⟨((2 : Nat) : Int),n,0,⟨#[]⟩,0⟩ : Vv)).x) ∧ w4.cell? ⟨h,4,none⟩ = some (.int .i64 ((⟨((2 : Nat) : Int),n,0,⟨#[]⟩,0⟩ : Vv)).r):=⟨cell_of s4.bh rfl,cell_of s4.bh rfl,cell_of s4.bh rfl,cell_of s4.bh rfl,cell_of s4.bh rfl⟩
      obtain ⟨i0,i1,i2,i3,i4⟩ : w4.cell? ⟨g,0,none⟩ = some (.int .i64 0) ∧ w4.cell? ⟨g,1,none⟩ = some (.int .i64 0) ∧ w4.cell? ⟨g,2,none⟩ = some (.float .f64 0) ∧ w4.cell? ⟨g,3,none⟩ = some (.string ⟨#[]⟩) ∧ w4.cell? ⟨g,4,none⟩ = some (.int .i64 0):=⟨cell_of s4.bg rfl,cell_of s4.bg rfl,cell_of s4.bg rfl,cell_of s4.bg rfl,cell_of s4.bg rfl⟩
      have j0 : ∀ j : Nat,w4.frozen? ⟨g,j,none⟩ = false:=fun j=>frozen_of s4.bg
      have HS : Hid (SV b a c M k k3 bad3 W g h ((⟨((2 : Nat) : Int),n,0,⟨#[]⟩,0⟩ : Vv)) w4):=s4
      clear s4
      dsimp only at e0 e1 e2 e3 e4
      go_wp2_with fail
      refine bodyPost_ret (by simp [results,Tryz.results74,go_sem,i0,i1,i2,i3,i4];rfl) rfl ?_
      obtain ⟨o1,o2⟩:=SV.out HS _ _ _ _ _
      exact ⟨_,k3,bad3,rfl,o1,SV.le HS,o2,(⟨((2 : Nat) : Int),n,0,⟨#[]⟩,0⟩ : Vv),rfl,⟨z40,z41⟩,⟨by dsimp only;omega,by dsimp only;omega⟩,by dsimp only;omega,rfl,HE.2.1,(SV.le HS),HE.2.2⟩
    · go_upto_region 16 with (go_at_call 71;refine HB.mono ?_;rintro e w3 ⟨v3,k3,bad3,rfl,z1,z2,z3,n,rfl,⟨z40,z41⟩,z5,z6⟩;have s3:=SV.step HS2 z1 z2 z3.ks;have t1 : w3.cell? ⟨h,1,none⟩ = some (.int .i64 0):=cell_of s3.bh rfl;have t2 : w3.frozen? ⟨h,1,none⟩ = false:=frozen_of s3.bh)
      have s4 : SV b a c M k k3 bad3 W g h (⟨((8 : Nat) : Int),n,0,⟨#[]⟩,0⟩ : Vv) (w3.setCell ⟨h,1,none⟩ (.int .i64 n)):=s3.set rfl
      have HE : Hid (k1 ≤ k3 ∧ (k3 = k ∨ bad = true → bad3 = true) ∧ ∀ y rest,Yok y → M.drop k = cb y ++ rest → (⟨((8 : Nat) : Int),n,0,⟨#[]⟩,0⟩ : Vv) = nv y ∧ k3 = k + (cb y).length ∧ bad3 = bad):=(⟨z2,fun e=>z5 (e.elim (fun e=>.inl (by have:=(show SV b a c M k k1 bad1 W g h _ w2 from HS2).le;omega)) (fun e=>.inr (HY.1 (.inr e)))),fun y rest hy hm=>by
        obtain ⟨hk,p1,p2,p3,p4⟩:=ex_head HY.2 hy hm
        have e1 : tlb y = nb y.m:=by unfold tlb;rw [if_pos (.inr (.inr hk))]
        rw [e1] at p3 p4
        obtain ⟨q1,q2,q3⟩:=z6 y.m rest hy.m.1 hy.m.2 p3
        refine ⟨?_,by omega,q3.trans p2⟩
        unfold nv
        rw [if_pos (.inr (.inr hk)),if_neg (by rw [hk];decide),if_neg (by rw [hk];decide),hk,q1]⟩ : _ ∧ _)
      clear HB t1 t2 s3 d0 z1 z2 z3 z5 z6
      generalize hw4 : w3.setCell ⟨h,1,none⟩ (.int .i64 n) = w4 at *
      clear hw4
      obtain ⟨e0,e1,e2,e3,e4⟩ : w4.cell? ⟨h,0,none⟩ = some (.int .i64 ((⟨((8 : Nat) : Int),n,0,⟨#[]⟩,0⟩ : Vv)).k) ∧ w4.cell? ⟨h,1,none⟩ = some (.int .i64 ((⟨((8 : Nat) : Int),n,0,⟨#[]⟩,0⟩ : Vv)).m) ∧ w4.cell? ⟨h,2,none⟩ = some (.float .f64 ((⟨((8 : Nat) : Int),n,0,⟨#[]⟩,0⟩ : Vv)).g) ∧ w4.cell? ⟨h,3,none⟩ = some (.string ((⟨((8 : Nat) : Int),n,0,⟨#[]⟩,0⟩ : Vv)).x) ∧ w4.cell? ⟨h,4,none⟩ = some (.int .i64 ((⟨((8 : Nat) : Int),n,0,⟨#[]⟩,0⟩ : Vv)).r):=⟨cell_of s4.bh rfl,cell_of s4.bh rfl,cell_of s4.bh rfl,cell_of s4.bh rfl,cell_of s4.bh rfl⟩
      obtain ⟨i0,i1,i2,i3,i4⟩ : w4.cell? ⟨g,0,none⟩ = some (.int .i64 0) ∧ w4.cell? ⟨g,1,none⟩ = some (.int .i64 0) ∧ w4.cell? ⟨g,2,none⟩ = some (.float .f64 0) ∧ w4.cell? ⟨g,3,none⟩ = some (.string ⟨#[]⟩) ∧ w4.cell? ⟨g,4,none⟩ = some (.int .i64 0):=⟨cell_of s4.bg rfl,cell_of s4.bg rfl,cell_of s4.bg rfl,cell_of s4.bg rfl,cell_of s4.bg rfl⟩
      have j0 : ∀ j : Nat,w4.frozen? ⟨g,j,none⟩ = false:=fun j=>frozen_of s4.bg
      have HS : Hid (SV b a c M k k3 bad3 W g h ((⟨((8 : Nat) : Int),n,0,⟨#[]⟩,0⟩ : Vv)) w4):=s4
      clear s4
      dsimp only at e0 e1 e2 e3 e4
      go_wp2_with fail
      refine bodyPost_ret (by simp [results,Tryz.results74,go_sem,i0,i1,i2,i3,i4];rfl) rfl ?_
      obtain ⟨o1,o2⟩:=SV.out HS _ _ _ _ _
      exact ⟨_,k3,bad3,rfl,o1,SV.le HS,o2,(⟨((8 : Nat) : Int),n,0,⟨#[]⟩,0⟩ : Vv),rfl,⟨z40,z41⟩,⟨by dsimp only;omega,by dsimp only;omega⟩,by dsimp only;omega,rfl,HE.2.1,(SV.le HS),HE.2.2⟩
  · have n1 : ¬ (x : Int) = 1:=by omega
    have n2 : ¬ (x : Int) = 2:=by omega
    have n8 : ¬ (x : Int) = 8:=by omega
    by_cases c4 : x = 4
    · subst c4
      have HB:=rd_text s2.rd
      have HS2 : Hid (SV b a c M k k1 bad1 W g h ⟨((4 : Nat) : Int),0,0,⟨#[]⟩,0⟩ w2):=s2
      clear s2 n1 n2 n8 c1
      go_upto_region 16 with (go_at_call 72;refine HB.mono ?_;rintro e w3 ⟨v3,k3,bad3,rfl,z1,z2,z3,X,rfl,z4,z5,z6⟩;have s3:=SV.step HS2 z1 z2 z3.ks;have t1 : w3.cell? ⟨h,3,none⟩ = some (.string ⟨#[]⟩):=cell_of s3.bh rfl;have t2 : w3.frozen? ⟨h,3,none⟩ = false:=frozen_of s3.bh)
      have s4 : SV b a c M k k3 bad3 W g h (⟨((4 : Nat) : Int),0,0,X,0⟩ : Vv) (w3.setCell ⟨h,3,none⟩ (.string X)):=s3.set rfl
      have HE : Hid (k + X.size ≤ k3 ∧ (k3 = k ∨ bad = true → bad3 = true) ∧ ∀ y rest,Yok y → M.drop k = cb y ++ rest → (⟨((4 : Nat) : Int),0,0,X,0⟩ : Vv) = nv y ∧ k3 = k + (cb y).length ∧ bad3 = bad):=(⟨by have:=(show SV b a c M k k1 bad1 W g h _ w2 from HS2).le;omega,fun e=>z5 (e.elim (fun e=>.inl (by have:=(show SV b a c M k k1 bad1 W g h _ w2 from HS2).le;omega)) (fun e=>.inr (HY.1 (.inr e)))),fun y rest hy hm=>by
        obtain ⟨hk,p1,p2,p3,p4⟩:=ex_head HY.2 hy hm
        have e1 : tlb y = tb y.x:=by unfold tlb;rw [if_neg (by rw [hk];decide),if_pos (show y.k = 4 from hk)]
        rw [e1] at p3 p4
        obtain ⟨q1,q2,q3⟩:=z6 y.x rest hy.x p3
        refine ⟨?_,by omega,q3.trans p2⟩
        unfold nv
        rw [if_neg (by rw [hk];decide),if_neg (by rw [hk];decide),if_pos (show y.k = 4 from hk),hk,q1]⟩ : _ ∧ _)
      clear HB t1 t2 s3 d0 z1 z2 z3 z4 z5 z6
      generalize hw4 : w3.setCell ⟨h,3,none⟩ (.string X) = w4 at *
      clear hw4
      obtain ⟨e0,e1,e2,e3,e4⟩ : w4.cell? ⟨h,0,none⟩ = some (.int .i64 ((⟨((4 : Nat) : Int),0,0,X,0⟩ : Vv)).k) ∧ w4.cell? ⟨h,1,none⟩ = some (.int .i64 ((⟨((4 : Nat) : Int),0,0,X,0⟩ : Vv)).m) ∧ w4.cell? ⟨h,2,none⟩ = some (.float .f64 ((⟨((4 : Nat) : Int),0,0,X,0⟩ : Vv)).g) ∧ w4.cell? ⟨h,3,none⟩ = some (.string ((⟨((4 : Nat) : Int),0,0,X,0⟩ : Vv)).x) ∧ w4.cell? ⟨h,4,none⟩ = some (.int .i64 ((⟨((4 : Nat) : Int),0,0,X,0⟩ : Vv)).r):=⟨cell_of s4.bh rfl,cell_of s4.bh rfl,cell_of s4.bh rfl,cell_of s4.bh rfl,cell_of s4.bh rfl⟩
      obtain ⟨i0,i1,i2,i3,i4⟩ : w4.cell? ⟨g,0,none⟩ = some (.int .i64 0) ∧ w4.cell? ⟨g,1,none⟩ = some (.int .i64 0) ∧ w4.cell? ⟨g,2,none⟩ = some (.float .f64 0) ∧ w4.cell? ⟨g,3,none⟩ = some (.string ⟨#[]⟩) ∧ w4.cell? ⟨g,4,none⟩ = some (.int .i64 0):=⟨cell_of s4.bg rfl,cell_of s4.bg rfl,cell_of s4.bg rfl,cell_of s4.bg rfl,cell_of s4.bg rfl⟩
      have j0 : ∀ j : Nat,w4.frozen? ⟨g,j,none⟩ = false:=fun j=>frozen_of s4.bg
      have HS : Hid (SV b a c M k k3 bad3 W g h ((⟨((4 : Nat) : Int),0,0,X,0⟩ : Vv)) w4):=s4
      clear s4
      dsimp only at e0 e1 e2 e3 e4
      go_wp2_with fail
      refine bodyPost_ret (by simp [results,Tryz.results74,go_sem,i0,i1,i2,i3,i4];rfl) rfl ?_
      obtain ⟨o1,o2⟩:=SV.out HS _ _ _ _ _
      exact ⟨_,k3,bad3,rfl,o1,SV.le HS,o2,(⟨((4 : Nat) : Int),0,0,X,0⟩ : Vv),rfl,⟨by dsimp only;omega,by dsimp only;omega⟩,⟨by dsimp only;omega,by dsimp only;omega⟩,by dsimp only;omega,rfl,HE.2.1,HE.1,HE.2.2⟩
    · have n4 : ¬ (x : Int) = 4:=by omega
      by_cases c3 : x = 3
      · subst c3
        have HL0 : Hid (SV b a c M k k1 bad1 W g h (⟨((3 : Nat) : Int),0,0,⟨#[]⟩,0⟩ : Vv) w2):=s2
        clear s2 n1 n2 n8 n4 c1 c4
        rw [show ((3 : Nat) : Int) = 3 from rfl] at d0 ⊢
        go_wp2_with fail
        go_loopw [4,5] (fun s4 s5 wr=>∃ (u i k' : Nat) (bad' : Bool),s4 = .int .u64 (u : Int) ∧ s5 = .int .i64 (i : Int) ∧ i ≤ 8 ∧ (u : Int) < 18446744073709551616 ∧ Hid (SV b a c M k k' bad' W g h (⟨((3 : Nat) : Int),0,0,⟨#[]⟩,0⟩ : Vv) wr ∧ k1 ≤ k' ∧ (k' = k ∨ bad = true → bad' = true) ∧ Gf M k1 bad1 i u k' bad')) (fun _ s5 _=>8 - (intOf s5).toNat)
        case atStart=>exact ⟨0,0,k1,bad1,rfl,rfl,by omega,by omega,(⟨HL0,Nat.le_refl _,HY.1,gf_zero _ _ _⟩ : _ ∧ _)⟩
        case round =>
          obtain ⟨u,i,k',bad',rfl,rfl,hi,hu,HX⟩:=hrel
          rcases Nat.lt_or_ge i 8 with hi2 | hi2
          · have hiI : (i : Int) < 8:=by omega
            have HB:=rd_byte (show _ ∧ _ from HX).1.rd
            go_upto_region 13 with (go_at_call 73;refine HB.mono ?_;rintro e w3 ⟨v3,k3,bad3,rfl,z1,z2,z3,x,rfl,z4,z5,z6⟩)
            obtain ⟨x1,x2,x3,x4⟩:=(show _ ∧ _ ∧ _ ∧ _ from HX)
            have hU:=af_bits u x z4
            have HN : Hid (SV b a c M k k3 bad3 W g h (⟨((3 : Nat) : Int),0,0,⟨#[]⟩,0⟩ : Vv) w3 ∧ k1 ≤ k3 ∧ (k3 = k ∨ bad = true → bad3 = true) ∧ Gf M k1 bad1 (i + 1) (af u x) k3 bad3):=(⟨x1.step z1 z2 z3.ks,Nat.le_trans x2 z2,fun e=>z5 (e.elim (fun e=>.inl (by have:=x1.le;omega)) (fun e=>.inr (x3 (.inr e)))),gf_next x4 hi2 z6⟩ : _ ∧ _)
            have hUI : ((af u x : Nat) : Int) < 18446744073709551616:=by have:=af_lt (u:=u) z4;omega
            clear HB HX x1 x2 x3 x4 z1 z2 z3 z5 z6
            rw [hU]
            clear hU
            generalize af u x = U at *
            go_wp2_with fail
            go_roundw
            case rel=>exact ⟨U,i + 1,k3,bad3,rfl,by go_num,by omega,hUI,HN⟩
            case measure=>simp [intOf];omega
          · obtain rfl : i = 8:=by omega
            obtain ⟨x1,x2,x3,x4⟩:=(show _ ∧ _ ∧ _ ∧ _ from HX)
            have HB:=(show FlC from HF) u (by omega) wr
            go_upto_region 16 with (go_at_call 122;refine HB.mono ?_;rintro e w3 ⟨f,rfl,z1,z2,z3⟩;have s3:=x1.step (x1.rd.kb z2) (Nat.le_refl _) (Kx.of_kb z2);have t1 : w3.cell? ⟨h,2,none⟩ = some (.float .f64 0):=cell_of s3.bh rfl;have t2 : w3.frozen? ⟨h,2,none⟩ = false:=frozen_of s3.bh)
            have s4 : SV b a c M k k' bad' W g h (⟨((3 : Nat) : Int),0,f,⟨#[]⟩,0⟩ : Vv) (w3.setCell ⟨h,2,none⟩ (.float .f64 f)):=s3.set rfl
            have HE : Hid ((k' = k ∨ bad = true → bad' = true) ∧ ∀ y rest,Yok y → M.drop k = cb y ++ rest → (⟨((3 : Nat) : Int),0,f,⟨#[]⟩,0⟩ : Vv) = nv y ∧ k' = k + (cb y).length ∧ bad' = bad):=(⟨x3,fun y rest hy hm=>by
              obtain ⟨hk,p1,p2,p3,p4⟩:=ex_head HY.2 hy hm
              have e1 : tlb y = db y.g 8:=by unfold tlb;rw [if_neg (by rw [hk];decide),if_neg (by rw [hk];decide),if_pos (show y.k = 3 from hk)]
              rw [e1] at p3 p4
              rw [db_len] at p4
              obtain ⟨q1,q2,q3⟩:=gf_end x4 hy.g p3
              refine ⟨?_,by omega,q3.trans p2⟩
              have e2 : f = y.g:=by rw [← q1];exact z3 (by rw [q1];exact hy.n hk)
              unfold nv
              rw [if_neg (by rw [hk];decide),if_pos (show y.k = 3 from hk),if_neg (by rw [hk];decide),hk,e2]⟩ : _ ∧ _)
            clear HB HX t1 t2 s3 d0 x1 x2 x3 x4 z2 z3
            generalize hw4 : w3.setCell ⟨h,2,none⟩ (.float .f64 f) = w4 at *
            clear hw4
            obtain ⟨e0,e1,e2,e3,e4⟩ : w4.cell? ⟨h,0,none⟩ = some (.int .i64 ((⟨((3 : Nat) : Int),0,f,⟨#[]⟩,0⟩ : Vv)).k) ∧ w4.cell? ⟨h,1,none⟩ = some (.int .i64 ((⟨((3 : Nat) : Int),0,f,⟨#[]⟩,0⟩ : Vv)).m) ∧ w4.cell? ⟨h,2,none⟩ = some (.float .f64 ((⟨((3 : Nat) : Int),0,f,⟨#[]⟩,0⟩ : Vv)).g) ∧ w4.cell? ⟨h,3,none⟩ = some (.string ((⟨((3 : Nat) : Int),0,f,⟨#[]⟩,0⟩ : Vv)).x) ∧ w4.cell? ⟨h,4,none⟩ = some (.int .i64 ((⟨((3 : Nat) : Int),0,f,⟨#[]⟩,0⟩ : Vv)).r):=⟨cell_of s4.bh rfl,cell_of s4.bh rfl,cell_of s4.bh rfl,cell_of s4.bh rfl,cell_of s4.bh rfl⟩
            obtain ⟨i0,i1,i2,i3,i4⟩ : w4.cell? ⟨g,0,none⟩ = some (.int .i64 0) ∧ w4.cell? ⟨g,1,none⟩ = some (.int .i64 0) ∧ w4.cell? ⟨g,2,none⟩ = some (.float .f64 0) ∧ w4.cell? ⟨g,3,none⟩ = some (.string ⟨#[]⟩) ∧ w4.cell? ⟨g,4,none⟩ = some (.int .i64 0):=⟨cell_of s4.bg rfl,cell_of s4.bg rfl,cell_of s4.bg rfl,cell_of s4.bg rfl,cell_of s4.bg rfl⟩
            have j0 : ∀ j : Nat,w4.frozen? ⟨g,j,none⟩ = false:=fun j=>frozen_of s4.bg
            have HS : Hid (SV b a c M k k' bad' W g h ((⟨((3 : Nat) : Int),0,f,⟨#[]⟩,0⟩ : Vv)) w4):=s4
            clear s4
            dsimp only at e0 e1 e2 e3 e4
            go_wp2_with fail
            refine bodyPost_ret (by simp [results,Tryz.results74,go_sem,i0,i1,i2,i3,i4];rfl) rfl ?_
            obtain ⟨o1,o2⟩:=SV.out HS _ _ _ _ _
            exact ⟨_,k',bad',rfl,o1,SV.le HS,o2,(⟨((3 : Nat) : Int),0,f,⟨#[]⟩,0⟩ : Vv),rfl,⟨by dsimp only;omega,by dsimp only;omega⟩,⟨by dsimp only;omega,by dsimp only;omega⟩,z1,rfl,HE.1,(SV.le HS),HE.2⟩
      · have n3 : ¬ (x : Int) = 3:=by omega
        have s4:=s2
        have HE : Hid ((k1 = k ∨ bad = true → bad1 = true) ∧ ∀ y rest,Yok y → M.drop k = cb y ++ rest → (⟨(x : Int),0,0,⟨#[]⟩,0⟩ : Vv) = nv y ∧ k1 = k + (cb y).length ∧ bad1 = bad):=(⟨HY.1,fun y rest hy hm=>by
          obtain ⟨hk,p1,p2,p3,p4⟩:=ex_head HY.2 hy hm
          have e1 : tlb y = []:=by unfold tlb;rw [if_neg (by omega),if_neg (by omega),if_neg (by omega)]
          rw [e1] at p4
          refine ⟨?_,by simp at p4;omega,p2⟩
          unfold nv
          rw [if_neg (by omega),if_neg (by omega),if_neg (by omega),hk]⟩ : _ ∧ _)
        clear s2 d0 c1
        generalize w2 = w4 at *
        obtain ⟨e0,e1,e2,e3,e4⟩ : w4.cell? ⟨h,0,none⟩ = some (.int .i64 ((⟨(x : Int),0,0,⟨#[]⟩,0⟩ : Vv)).k) ∧ w4.cell? ⟨h,1,none⟩ = some (.int .i64 ((⟨(x : Int),0,0,⟨#[]⟩,0⟩ : Vv)).m) ∧ w4.cell? ⟨h,2,none⟩ = some (.float .f64 ((⟨(x : Int),0,0,⟨#[]⟩,0⟩ : Vv)).g) ∧ w4.cell? ⟨h,3,none⟩ = some (.string ((⟨(x : Int),0,0,⟨#[]⟩,0⟩ : Vv)).x) ∧ w4.cell? ⟨h,4,none⟩ = some (.int .i64 ((⟨(x : Int),0,0,⟨#[]⟩,0⟩ : Vv)).r):=⟨cell_of s4.bh rfl,cell_of s4.bh rfl,cell_of s4.bh rfl,cell_of s4.bh rfl,cell_of s4.bh rfl⟩
        obtain ⟨i0,i1,i2,i3,i4⟩ : w4.cell? ⟨g,0,none⟩ = some (.int .i64 0) ∧ w4.cell? ⟨g,1,none⟩ = some (.int .i64 0) ∧ w4.cell? ⟨g,2,none⟩ = some (.float .f64 0) ∧ w4.cell? ⟨g,3,none⟩ = some (.string ⟨#[]⟩) ∧ w4.cell? ⟨g,4,none⟩ = some (.int .i64 0):=⟨cell_of s4.bg rfl,cell_of s4.bg rfl,cell_of s4.bg rfl,cell_of s4.bg rfl,cell_of s4.bg rfl⟩
        have j0 : ∀ j : Nat,w4.frozen? ⟨g,j,none⟩ = false:=fun j=>frozen_of s4.bg
        have HS : Hid (SV b a c M k k1 bad1 W g h ((⟨(x : Int),0,0,⟨#[]⟩,0⟩ : Vv)) w4):=s4
        clear s4
        dsimp only at e0 e1 e2 e3 e4
        go_wp2_with fail
        refine bodyPost_ret (by simp [results,Tryz.results74,go_sem,i0,i1,i2,i3,i4];rfl) rfl ?_
        obtain ⟨o1,o2⟩:=SV.out HS _ _ _ _ _
        exact ⟨_,k1,bad1,rfl,o1,SV.le HS,o2,(⟨(x : Int),0,0,⟨#[]⟩,0⟩ : Vv),rfl,⟨by dsimp only;omega,by dsimp only;omega⟩,⟨by dsimp only;omega,by dsimp only;omega⟩,by dsimp only;omega,rfl,HE.1,(SV.le HS),HE.2⟩
end Go.Proofs.YtnmeemjoodoalaaGreatDoor.Fo
