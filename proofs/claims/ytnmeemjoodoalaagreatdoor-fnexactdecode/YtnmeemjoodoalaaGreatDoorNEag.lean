import Derived.Test.YtnmeemjoodoalaaGreatDoorNEae
import Derived.Test.YtnmeemjoodoalaaGreatDoorNCda
import Derived.Test.YtnmeemjoodoalaaGreatDoorNQka
import Derived.Laws.Bits128
import Derived.Laws.DeepNot64
set_option maxHeartbeats 4000000
namespace Go.Proofs.YtnmeemjoodoalaaGreatDoor.Fo
open Go.ChangeShapes Go.WideShapes Go.ChangeAt Go.RowKit
set_option linter.unusedVariables false
set_option maxRecDepth 100000
def BitsC : Prop:=∀ (g : Nat),g < 18446744073709551616 → FloatKind.f64.format.order g g = some .eq → ∀ W : World,Calls Tryz.prog 100 #[.float .f64 g] W fun e w'=>e = .returned (.int .u64 (g : Int)) ∧ Kb 0 W w'
def Rn (n : Int) : Prop:=-9223372036854775808 ≤ n ∧ n ≤ 9223372036854775807
structure Psh (d : Pd) : Prop where
  hx : (d.x.size : Int) ≤ 1048576
  hu : d.u ≤ 250
  hc : d.c ≤ 500
  hn : d.n ≤ 6000
  hd : d.d ≤ 500
  hl : Rn d.l
  hm : Rn d.m
  hg : Rn d.g
  hU : ∀ i,i < d.u → Rn (d.U i).2
  hC : ∀ i,i < d.c → Cok (d.C i) ∧ Rn (d.C i).m ∧ ((d.C i).x.size : Int) ≤ 1048576 ∧ (d.C i).g < 18446744073709551616
  hN : ∀ i,i < d.n → Rn (d.N i).o ∧ Rn (d.N i).a ∧ Rn (d.N i).b ∧ Rn (d.N i).c ∧ Rn (d.N i).d
  hD : ∀ i,i < d.d → ((d.D i).x.size : Int) ≤ 1048576 ∧ Rn (d.D i).g ∧ Rn (d.D i).f ∧ Rn (d.D i).t
theorem two_newE (w : World) (a b : Array Value) (t1 t2 : TypeId) (W : World) (h : W = (w.alloc (.cells a t1)).alloc (.cells b t2)) : W.heap[w.heap.size]? = some (.cells a t1 (0,0)) ∧ W.heap[w.heap.size + 1]? = some (.cells b t2 (0,0)) ∧ W.heap.size = w.heap.size + 2 ∧ Kb 0 w W:=by
  have e : (w.alloc (.cells a t1)).heap.size = w.heap.size + 1:=World.size_alloc _ _
  subst h
  refine ⟨?_,?_,by simp,kb_alloc2 _ _ _ _⟩
  · rw [(kb_alloc 0 _ _).block _ (Nat.zero_le _) (by rw [World.size_alloc];omega)]
    exact alloc_new _ _ _
  · rw [← e]
    exact alloc_new _ _ _
theorem Rn.len {n : Int} (h : Rn n) : (nb n).length ≤ 10:=nb_len h.1 h.2
theorem sp_cst {w0 W : World} {l : List UInt8} {vo : Value} (HB : BitsC) (v : Vv) (hc : Cok v) (hm : Rn v.m) (hx : (v.x.size : Int) ≤ 1048576) (hg : v.g < 18446744073709551616) (hq : QK w0 l vo W) (hl : l.length ≤ 80000000000000) :
    Calls Tryz.prog 42 #[vo,.agg #[.int .i64 v.k,.int .i64 v.m,.float .f64 v.g,.string v.x,.int .i64 v.r]] W (AP w0 W (l ++ cb v)):=by
  obtain ⟨h1,⟨n5,n6,n7⟩,h3,h4⟩:=hc
  have hb : ∀ W : World,Calls Tryz.prog 100 #[.float .f64 v.g] W fun e w'=>e = .returned (.int .u64 (v.g : Int)) ∧ Kb 0 W w':=by
    by_cases k3 : v.k = 3
    · exact HB v.g hg (h3 k3)
    · rw [h4 k3]
      exact HB 0 (by omega) (by decide)
  rcases (by rcases h1 with h | h | h | h | h | h | h | h | h <;> omega : v.k = 0 ∨ v.k = 1 ∨ v.k = 2 ∨ v.k = 3 ∨ v.k = 4 ∨ v.k = 8) with h | h | h | h | h | h
  · rw [h];exact sp_const0 v h hm hx hb hg hq hl
  · rw [h];exact sp_const1 v h hm hx hb hg hq hl
  · rw [h];exact sp_const2 v h hm hx hb hg hq hl
  · rw [h];exact sp_const3 v h hm hx hb hg hq hl
  · rw [h];exact sp_const4 v h hm hx hb hg hq hl
  · rw [h];exact sp_const8 v h hm hx hb hg hq hl
theorem cb_len {v : Vv} (hm : Rn v.m) (hx : (v.x.size : Int) ≤ 1048576) : (cb v).length ≤ 1048600:=by
  have h1:=hm.len
  have h2:=tb_len (x:=v.x) (by omega)
  have h3:=db_len v.g 8
  unfold cb
  rw [List.length_cons]
  split
  · omega
  · split
    · omega
    · split
      · omega
      · simp
theorem ub_len {u : Bool × Int} (h : Rn u.2) : (ub u).length ≤ 11:=by
  have h1:=h.len
  unfold ub fb
  rw [List.length_append,List.length_singleton]
  omega
theorem ib_len {a : Iv} (h : Rn a.o ∧ Rn a.a ∧ Rn a.b ∧ Rn a.c ∧ Rn a.d) : (ib a).length ≤ 50:=by
  obtain ⟨h1,h2,h3,h4,h5⟩:=h
  have:=h1.len;have:=h2.len;have:=h3.len;have:=h4.len;have:=h5.len
  unfold ib
  simp only [List.length_append]
  omega
theorem mb_len {a : Mv} (h : (a.x.size : Int) ≤ 1048576 ∧ Rn a.g ∧ Rn a.f ∧ Rn a.t) : (mb a).length ≤ 1048616:=by
  obtain ⟨h1,h2,h3,h4⟩:=h
  have:=tb_len (x:=a.x) (by omega);have:=h2.len;have:=h3.len;have:=h4.len
  unfold mb
  simp only [List.length_append]
  omega
structure Sok (np : Nat) (F : Nat → Pd) : Prop where
  sz : Szu np F
  hd : ∀ p,p < np → Hd p (F p)
  co : ∀ p,p < np → ∀ i,i < (F p).c → Cok ((F p).C i)
  nm : ∀ p,p < np → ∀ i,i < (F p).d → Nok (F p) i
  nz : ∀ p,p < np → (F p).n ≠ 0
  is : ∀ p,p < np → ∀ i,i < (F p).n → Iok np (F p) i
  fn : ∀ p,p < np → ∀ i,i < (F p).n → P6 F p i
  md : ∀ p,p < np → P7 np F p
theorem sok_of {np : Nat} {F : Nat → Pd} {f n : Nat} (h : Ans 7 np F 0 f n) : Sok np F:=by
  rcases h with ⟨h1,_⟩ | ⟨_,h1,_⟩ | ⟨h1,_,_,_,h5⟩
  · omega
  · omega
  · have l5 : ∀ p, p < np → (F p).n ≠ 0 := fun p hp => by
      have:=h5 5 (by omega) (by omega) p hp 0 (by show 0 < L5 F p;unfold L5;split <;> omega)
      exact this.1
    exact ⟨h1,fun p hp=>h5 2 (by omega) (by omega) p hp 0 (by show 0 < 1;omega),fun p hp i hi=>h5 3 (by omega) (by omega) p hp i hi,fun p hp i hi=>h5 4 (by omega) (by omega) p hp i hi,l5,fun p hp i hi=>(h5 5 (by omega) (by omega) p hp i (by show i < L5 F p;unfold L5;rw [if_neg (l5 p hp)];exact hi)).2,fun p hp i hi=>h5 6 (by omega) (by omega) p hp i hi,fun p hp=>h5 7 (by omega) (by omega) p hp 0 (by show 0 < 1;omega)⟩
def Img (np : Nat) (F : Nat → Pd) (R : List UInt8) : Prop:=∃ c f n,Ans 7 np F c f n ∧ R = (if c = 0 ∧ (eb F np).length ≤ 1000000 then eb F np else [])
theorem Img.uniq {np : Nat} {F : Nat → Pd} {R R' : List UInt8} (h : Img np F R) (h' : Img np F R') : R = R':=by
  obtain ⟨c,f,n,h1,h2⟩:=h
  obtain ⟨c',f',n',h1',h2'⟩:=h'
  obtain ⟨rfl,rfl,rfl⟩:=h1.uniq h1'
  rw [h2,h2']
theorem eb_eq (F : Nat → Pd) (np : Nat) : eb F np = ([72,67,1] ++ nb (np : Int)) ++ ct (fun i=>pb (F i)) np:=by
  unfold eb lb
  rw [List.append_assoc]
theorem ct_mono (f : Nat → List UInt8) {p n : Nat} (h : p ≤ n) : (ct f p).length ≤ (ct f n).length:=by
  induction n with
  | zero=>rw [Nat.le_zero.1 h];exact Nat.le_refl _
  | succ n ih =>
    rcases Nat.lt_or_ge p (n + 1) with q | q
    · have:=ih (by omega)
      show _ ≤ (ct f n ++ f n).length
      rw [List.length_append]
      omega
    · rw [show p = n + 1 by omega]
      exact Nat.le_refl _
theorem pb_len {d : Pd} (h : Psh d) : (pb d).length ≤ 1100000000:=by
  have h1:=tb_len (x:=d.x) (by have:=h.hx;omega)
  have hx:=h.hx
  have h2:=h.hl.len
  have h3:=h.hm.len
  have h4:=h.hg.len
  have u:=h.hu
  have c:=h.hc
  have n:=h.hn
  have dd:=h.hd
  have h5:=nb_len (n:=(d.u : Int)) (by omega) (by omega)
  have h6:=nb_len (n:=(d.c : Int)) (by omega) (by omega)
  have h7:=nb_len (n:=(d.n : Int)) (by omega) (by omega)
  have h8:=nb_len (n:=(d.d : Int)) (by omega) (by omega)
  have k1:=ct_len (f:=fun i=>ub (d.U i)) d.u (fun i hi=>ub_len (h.hU i hi))
  have k2:=ct_len (f:=fun i=>cb (d.C i)) d.c (fun i hi=>cb_len (h.hC i hi).2.1 (h.hC i hi).2.2.1)
  have k3:=ct_len (f:=fun i=>ib (d.N i)) d.n (fun i hi=>ib_len (h.hN i hi))
  have k4:=ct_len (f:=fun i=>mb (d.D i)) d.d (fun i hi=>mb_len (h.hD i hi))
  have f1 : (fb d.r).length = 1:=rfl
  unfold pb lb
  simp only [List.length_append]
  omega
structure Kz (b : Nat) (W w' : World) : Prop where
  os : w'.os = W.os
  output : w'.output = W.output
  size : w'.heap.size = W.heap.size
  block : ∀ k,k ≠ b → w'.heap[k]? = W.heap[k]?
theorem Kz.set {b : Nat} {W w' : World} (h : Kz b W w') (j : Nat) (v : Value) : Kz b W (w'.setCell ⟨b,j,none⟩ v) :=
  ⟨h.os,h.output,by simp [World.setCell,h.size],fun k hk=>(Below.heap_setCell _ _ _ _ hk).trans (h.block k hk)⟩
theorem Kz.refl (b : Nat) (W : World) : Kz b W W:=⟨rfl,rfl,rfl,fun _ _=>rfl⟩
theorem Kz.ok {b : Nat} {W w' : World} (h : Kz b W w') : Lib.OthersKept 5 (some b) W w':=fun k o hk hb _=>(h.block k (fun e=>hb (by rw [e]))).trans hk
theorem ps_lost {W : World} {b : Nat} {im : Value} (lf n : Int) (h : W.heap[b]? = some (.cells #[im, .int .i64 lf, .bool true] 57 (0, 0))) :
    Calls Tryz.prog 52 #[.pointer (some ⟨b,0,none⟩),.int .i64 n] W fun e w'=>e = .returned (.bool false) ∧ w'.heap[b]? = some (.cells #[im,.int .i64 lf,.bool true] 57 (0,0)) ∧ Kz b W w':=by
  have c1 : W.cell? ⟨b,1,none⟩ = some (.int .i64 lf):=cell_of h rfl
  have c2 : W.cell? ⟨b,2,none⟩ = some (.bool true):=cell_of h rfl
  have f1 : W.frozen? ⟨b,1,none⟩ = false:=frozen_of h
  have f2 : W.frozen? ⟨b,2,none⟩ = false:=frozen_of h
  have HH : Hid (W.heap[b]? = some (.cells #[im,.int .i64 lf,.bool true] 57 (0,0))):=h
  clear h
  go_enter Tryz.func52,Tryz.ntmps52
  go_wp2_with fail
  go_ret
  exact ⟨rfl,by rw [set_known _ (show W.heap[b]? = _ from HH)];rfl,(Kz.refl _ _).set _ _⟩
theorem ps_fits {W : World} {b : Nat} {im : Value} (lf n : Int) (h : W.heap[b]? = some (.cells #[im, .int .i64 lf, .bool false] 57 (0, 0))) (h0 : 0 ≤ n) (h1 : n ≤ lf) (hr : lf ≤ 1000000) :
    Calls Tryz.prog 52 #[.pointer (some ⟨b,0,none⟩),.int .i64 n] W fun e w'=>e = .returned (.bool true) ∧ w'.heap[b]? = some (.cells #[im,.int .i64 (lf - n),.bool false] 57 (0,0)) ∧ Kz b W w':=by
  have c1 : W.cell? ⟨b,1,none⟩ = some (.int .i64 lf):=cell_of h rfl
  have c2 : W.cell? ⟨b,2,none⟩ = some (.bool false):=cell_of h rfl
  have f1 : W.frozen? ⟨b,1,none⟩ = false:=frozen_of h
  have f2 : W.frozen? ⟨b,2,none⟩ = false:=frozen_of h
  have HH : Hid (W.heap[b]? = some (.cells #[im,.int .i64 lf,.bool false] 57 (0,0))):=h
  clear h
  have g0 : ¬ n < 0:=by omega
  have g1 : ¬ lf < n:=by omega
  have hs : wrap64 (lf - n) = lf - n:=by unfold wrap64;omega
  clear h0 h1 hr
  go_enter Tryz.func52,Tryz.ntmps52
  go_wp2_with fail
  go_ret
  exact ⟨rfl,by rw [set_known _ (set_known _ (show W.heap[b]? = _ from HH))];rfl,((Kz.refl _ _).set _ _).set _ _⟩
theorem ps_long {W : World} {b : Nat} {im : Value} (lf n : Int) (h : W.heap[b]? = some (.cells #[im, .int .i64 lf, .bool false] 57 (0, 0))) (h0 : 0 ≤ n) (h1 : lf < n) :
    Calls Tryz.prog 52 #[.pointer (some ⟨b,0,none⟩),.int .i64 n] W fun e w'=>e = .returned (.bool false) ∧ w'.heap[b]? = some (.cells #[im,.int .i64 lf,.bool true] 57 (0,0)) ∧ Kz b W w':=by
  have c1 : W.cell? ⟨b,1,none⟩ = some (.int .i64 lf):=cell_of h rfl
  have c2 : W.cell? ⟨b,2,none⟩ = some (.bool false):=cell_of h rfl
  have f1 : W.frozen? ⟨b,1,none⟩ = false:=frozen_of h
  have f2 : W.frozen? ⟨b,2,none⟩ = false:=frozen_of h
  have HH : Hid (W.heap[b]? = some (.cells #[im,.int .i64 lf,.bool false] 57 (0,0))):=h
  clear h
  have g0 : ¬ n < 0:=by omega
  clear h0
  go_enter Tryz.func52,Tryz.ntmps52
  go_wp2_with fail
  go_ret
  exact ⟨rfl,by rw [set_known _ (show W.heap[b]? = _ from HH)];rfl,(Kz.refl _ _).set _ _⟩
structure RD (b : Nat) (a : Addr) (c : Nat) (M : List UInt8) (k : Nat) (bad : Bool) (W : World) : Prop where
  blk : W.heap[b]? = some (.cells #[.slice (some a) M.length c,.int .i64 (k : Int),.bool bad] 65 (0,0))
  le : k ≤ M.length
  sz : M.length ≤ 1000000
  cap : M.length ≤ c
  ne : a.block ≠ b
  row : ∀ i (x : UInt8),M[i]? = some x → W.cell? (a.add i) = some (.int .u8 (x.toNat : Int))
theorem RD.kz {b : Nat} {a : Addr} {c : Nat} {M : List UInt8} {k k' : Nat} {bad bad' : Bool} {W w' : World} (h : RD b a c M k bad W) (z : Kz b W w') (hb : w'.heap[b]? = some (.cells #[.slice (some a) M.length c,.int .i64 (k' : Int),.bool bad'] 65 (0,0))) (hk : k' ≤ M.length) : RD b a c M k' bad' w' :=
  ⟨hb,hk,h.sz,h.cap,h.ne,fun i x hx=>(World.cell?_of_block (by rw [add_block];exact z.block _ h.ne)).trans (h.row i x hx)⟩
theorem Kz.trans {b : Nat} {W w1 w2 : World} (h : Kz b W w1) (k : Kz b w1 w2) : Kz b W w2:=⟨k.os.trans h.os,k.output.trans h.output,k.size.trans h.size,fun i hi=>(k.block i hi).trans (h.block i hi)⟩
theorem Kz.drewN {b : Nat} {W w1 : World} (h : Kz b W w1) (n : Nat) : Kz b W (w1.drewN n):=⟨h.os,h.output,h.size,h.block⟩
def RP (b : Nat) (a : Addr) (c : Nat) (M : List UInt8) (k : Nat) (W : World) (Q : Value → Nat → Bool → Prop) (e : Ending) (w' : World) : Prop:=∃ v k' bad',e = .returned v ∧ RD b a c M k' bad' w' ∧ k ≤ k' ∧ Kz b W w' ∧ Q v k' bad'
theorem rd_byte {b : Nat} {a : Addr} {c : Nat} {M : List UInt8} {k : Nat} {bad : Bool} {W : World} (h : RD b a c M k bad W) :
    Calls Tryz.prog 73 #[.pointer (some ⟨b,0,none⟩)] W (RP b a c M k W (fun v k' bad'=>∃ x : Nat,v = .int .i64 (x : Int) ∧ x < 256 ∧ (k' = k ∨ bad = true → bad' = true) ∧ ∀ y,M[k]? = some y → x = y.toNat ∧ k' = k + 1 ∧ bad' = bad)):=by
  have c0 : W.cell? ⟨b,0,none⟩ = some (.slice (some a) M.length c):=cell_of h.blk rfl
  have c1 : W.cell? ⟨b,1,none⟩ = some (.int .i64 (k : Int)):=cell_of h.blk rfl
  have c2 : W.cell? ⟨b,2,none⟩ = some (.bool bad):=cell_of h.blk rfl
  have f1 : W.frozen? ⟨b,1,none⟩ = false:=frozen_of h.blk
  have f2 : W.frozen? ⟨b,2,none⟩ = false:=frozen_of h.blk
  have hle:=h.le
  have hsz:=h.sz
  have hcap:=h.cap
  have hne:=h.ne
  obtain ⟨n,hn⟩ : ∃ n,n = M.length:=⟨_,rfl⟩
  have HH : Hid (RD b a c M k bad W ∧ n = M.length):=(⟨h,hn⟩ : _ ∧ _)
  rw [← hn] at c0 hle hsz hcap
  by_cases hk : k < n
  · obtain ⟨x,hx⟩ : ∃ x,M[k]? = some x:=⟨_,List.getElem?_eq_getElem (by omega)⟩
    have hs : wrap64 ((k : Int) + 1 - 1) = (k : Int):=by unfold wrap64;omega
    have hr : ∀ v,(W.setCell ⟨b,1,none⟩ v).cell? (a.add k) = some (.int .u8 (x.toNat : Int)):=fun v=>(World.cell?_of_block (by rw [add_block];exact Below.heap_setCell _ _ _ _ hne)).trans (h.row k x hx)
    have HX : Hid (M[k]? = some x):=hx
    have hxl : (x.toNat : Int) < 256:=by have:=x.toNat_lt;omega
    have hg : ¬ (n : Int) ≤ (k : Int):=by omega
    have hkI : (k : Int) < (n : Int):=by omega
    have hnI : (n : Int) ≤ 1000000:=by omega
    have hB : ∀ (d : Nat),RD b a c M (k + 1) bad ((W.drewN d).setCell ⟨b,1,none⟩ (.int .i64 ((k : Int) + 1))) ∧ Kz b W ((W.drewN d).setCell ⟨b,1,none⟩ (.int .i64 ((k : Int) + 1))):=fun d=>by
      have z : Kz b W ((W.drewN d).setCell ⟨b,1,none⟩ (.int .i64 ((k : Int) + 1))):=((Kz.refl b W).drewN d).set 1 _
      exact ⟨h.kz z (by have:=set_known (W:=W.drewN d) (j:=1) (.int .i64 ((k : Int) + 1)) h.blk;exact this) (by omega),z⟩
    have HB : Hid (∀ (d : Nat),_):=hB
    clear h hle hsz hn hx hk hB
    generalize hX : x.toNat = X at *
    have HXX : Hid (x.toNat = X):=hX
    clear hX
    go_enter Tryz.func73,Tryz.ntmps73
    go_wp2_with fail
    go_quiet (skip)
    go_wp2_with fail
    have hr2:=hr (Value.int IntKind.i64 (↑k + 1))
    obtain ⟨y1,y2⟩:=(show ∀ d : Nat,_ from HB) nq
    clear HB
    generalize hW : ((W.drewN nq).setCell { block:=b,off:=1 } (Value.int IntKind.i64 (↑k + 1))) = W2 at *
    obtain ⟨hn,d0,d1⟩ : n = M.length ∧ W2.cell? ⟨b,0,none⟩ = some (.slice (some a) M.length c) ∧ W2.cell? ⟨b,1,none⟩ = some (.int .i64 ((k + 1 : Nat) : Int)):=⟨HH.2,cell_of y1.blk rfl,cell_of y1.blk rfl⟩
    rw [← hn] at d0
    rw [show ((k + 1 : Nat) : Int) = (k : Int) + 1 from rfl] at d1
    have d2 : W2.cell? (a.add k) = some (.int .u8 (X : Int)):=by rw [← hW];exact hr2
    have HY : Hid (RD b a c M (k + 1) bad W2 ∧ Kz b W W2):=(⟨y1,y2⟩ : _ ∧ _)
    clear hr hr2 hW y1 y2 hn
    go_quiet (skip)
    go_wp2_with fail
    go_ret
    obtain ⟨y1,y2⟩:=(show _ ∧ _ from HY)
    exact ⟨_,k + 1,bad,rfl,⟨y1.blk,y1.le,y1.sz,y1.cap,y1.ne,y1.row⟩,by omega,y2.drewN _,X,rfl,by omega,fun e=>e.elim (fun e=>by omega) id,fun y hy=>⟨by have:=HX;have h2:=HXX;rw [show M[k]? = some x from HX] at hy;injection hy with hy;rw [← hy];exact h2.symm,rfl,rfl⟩⟩
  · have hg : (n : Int) ≤ (k : Int):=by omega
    have hnI : (n : Int) ≤ 1000000:=by omega
    have hB : ∀ (d : Nat),RD b a c M k true ((W.drewN d).setCell ⟨b,2,none⟩ (.bool true)) ∧ Kz b W ((W.drewN d).setCell ⟨b,2,none⟩ (.bool true)):=fun d=>by
      have z : Kz b W ((W.drewN d).setCell ⟨b,2,none⟩ (.bool true)):=((Kz.refl b W).drewN d).set 2 _
      exact ⟨h.kz z (by have:=set_known (W:=W.drewN d) (j:=2) (.bool true) h.blk;exact this) (by omega),z⟩
    have HB : Hid (∀ (d : Nat),_):=hB
    have HN : Hid (∀ y,M[k]? = some y → False):=(fun y hy=>by have:=(List.getElem?_eq_some_iff.1 hy).1;omega : ∀ y,M[k]? = some y → False)
    clear h hle hsz hn hk hB
    go_enter Tryz.func73,Tryz.ntmps73
    go_wp2_with fail
    go_quiet (skip)
    go_wp2_with fail
    go_ret
    obtain ⟨y1,y2⟩:=(show ∀ d : Nat,_ from HB) nq
    exact ⟨_,k,true,rfl,y1,Nat.le_refl _,y2,0,rfl,by omega,fun _=>rfl,fun y hy=>((show ∀ y,_ → False from HN) y hy).elim⟩
def Gy (M : List UInt8) (k : Nat) (bad : Bool) (i u k' : Nat) (bad' : Bool) : Prop:=∀ (y : Nat) rest,y < 18446744073709551616 → M.drop k = vb y ++ rest → M.drop k' = vb (y / 128 ^ i) ++ rest ∧ u = y % 128 ^ i ∧ bad' = bad ∧ k' + (vb (y / 128 ^ i)).length = k + (vb y).length ∧ (i = 0 ∨ 128 ^ i ≤ y)
theorem drop_cons {M : List UInt8} {k : Nat} {z : UInt8} {r : List UInt8} (h : M.drop k = z :: r) : M[k]? = some z ∧ M.drop (k + 1) = r:=by
  constructor
  · have:=congrArg (fun l=>l[0]?) h
    simpa using this
  · have:=congrArg (fun l=>l.drop 1) h
    simpa [List.drop_drop] using this
theorem and_i64 (x : Nat) (h : x < 256) : bits .and .i64 (x : Int) 127 = ((x % 128 : Nat) : Int):=by
  rw [Go.i64_and127];omega
theorem tn {z : Nat} (h : z < 256) : (UInt8.ofNat z).toNat = z:=by rw [UInt8.toNat_ofNat'];exact Nat.mod_eq_of_lt h
def ad (u i x : Nat) : Nat:=u ||| (x % 128 * 2 ^ (7 * i) % 18446744073709551616)
theorem ad_lt {u : Nat} (i x : Nat) (h : u < 18446744073709551616) : ad u i x < 18446744073709551616:=Nat.or_lt_two_pow (n:=64) h (Nat.mod_lt _ (by decide))
theorem ad_bits {u : Nat} (i x : Nat) (h : u < 18446744073709551616) (hx : x < 256) : bits BinOp.or IntKind.u64 (u : Int) (IntKind.u64.wrap (IntKind.u64.wrap (bits BinOp.and IntKind.i64 (x : Int) 127) * 2 ^ (7 * i))) = (ad u i x : Int):=by
  have e : IntKind.u64.wrap (IntKind.u64.wrap (bits BinOp.and IntKind.i64 (x : Int) 127) * 2 ^ (7 * i)) = ((x % 128 * 2 ^ (7 * i) % 18446744073709551616 : Nat) : Int):=by
    rw [and_i64 x hx,wrap_u64,wrap_u64]
    rw [show ((x % 128 : Nat) : Int) % 18446744073709551616 = ((x % 128 : Nat) : Int) by omega]
    generalize x % 128 = r
    rw [Int.natCast_emod,Int.natCast_mul,Int.natCast_pow]
    rfl
  rw [e,Go.u64_or_nat _ _ h (Nat.mod_lt _ (by decide))]
  rfl
theorem p128 (i : Nat) : 128 ^ i = 2 ^ (7 * i):=by rw [Nat.pow_mul]
theorem ad_step {y i : Nat} (hy : y < 18446744073709551616) : ad (y % 128 ^ i) i (y / 128 ^ i % 128) = y % 128 ^ (i + 1):=by
  have e : y % 128 ^ (i + 1) = 2 ^ (7 * i) * (y / 128 ^ i % 128) + y % 128 ^ i:=by rw [Nat.pow_succ,Nat.mod_mul,Nat.add_comm,p128]
  have hle : y % 128 ^ (i + 1) ≤ y:=Nat.mod_le _ _
  unfold ad
  rw [Nat.mod_mod,Nat.mul_comm,Nat.mod_eq_of_lt (a:=2 ^ (7 * i) * _) (by omega),e,Nat.or_comm]
  exact (Nat.two_pow_add_eq_or_of_lt (by rw [← p128];exact Nat.mod_lt _ (Nat.pow_pos (by decide))) _).symm
theorem ad_mod (u i x : Nat) : ad u i (x % 128) = ad u i x:=by unfold ad;rw [Nat.mod_mod]
theorem gy_next {M : List UInt8} {k : Nat} {bad : Bool} {i u k' : Nat} {bad' : Bool} {x k1 : Nat} {bad1 : Bool} (h : Gy M k bad i u k' bad') (hb : ∀ y,M[k']? = some y → x = y.toNat ∧ k1 = k' + 1 ∧ bad1 = bad') (hx : 128 ≤ x) : Gy M k bad (i + 1) (ad u i x) k1 bad1:=by
  intro y rest hy hm
  obtain ⟨g1,rfl,g3,g4,g5⟩:=h y rest hy hm
  by_cases hc : y / 128 ^ i < 128
  · rw [vb_lt hc] at g1
    obtain ⟨q1,q2⟩:=drop_cons g1
    obtain ⟨rfl,_,_⟩:=hb _ q1
    rw [tn (by omega)] at hx
    omega
  · rw [vb_ge hc] at g1 g4
    obtain ⟨q1,q2⟩:=drop_cons g1
    obtain ⟨rfl,rfl,rfl⟩:=hb _ q1
    have e : y / 128 ^ i / 128 = y / 128 ^ (i + 1):=by rw [Nat.div_div_eq_div_mul,Nat.pow_succ]
    rw [e] at q2 g4
    refine ⟨q2,?_,g3,by rw [List.length_cons] at g4;omega,.inr ?_⟩
    · rw [tn (by omega),← ad_mod,show (128 + y / 128 ^ i % 128) % 128 = y / 128 ^ i % 128 by omega]
      exact ad_step hy
    · rw [Nat.pow_succ,Nat.mul_comm]
      exact (Nat.le_div_iff_mul_le (Nat.pow_pos (by decide))).1 (by omega)
theorem gy_end {M : List UInt8} {k : Nat} {bad : Bool} {i u k' : Nat} {bad' : Bool} {x k1 : Nat} {bad1 : Bool} (h : Gy M k bad i u k' bad') (hb : ∀ y,M[k']? = some y → x = y.toNat ∧ k1 = k' + 1 ∧ bad1 = bad') (hx : x < 128) {y : Nat} {rest : List UInt8} (hy : y < 18446744073709551616) (hm : M.drop k = vb y ++ rest) : ad u i x = y ∧ k1 = k + (vb y).length ∧ bad1 = bad:=by
  obtain ⟨g1,rfl,g3,g4,g5⟩:=h y rest hy hm
  by_cases hc : y / 128 ^ i < 128
  · rw [vb_lt hc] at g1 g4
    obtain ⟨q1,q2⟩:=drop_cons g1
    obtain ⟨rfl,rfl,rfl⟩:=hb _ q1
    refine ⟨?_,by rw [List.length_cons] at g4;simp at g4;omega,g3⟩
    rw [tn (by omega),← Nat.mod_eq_of_lt hc,ad_step hy,Nat.mod_eq_of_lt]
    rw [Nat.pow_succ,Nat.mul_comm]
    exact (Nat.div_lt_iff_lt_mul (Nat.pow_pos (by decide))).1 hc
  · rw [vb_ge hc] at g1
    obtain ⟨q1,q2⟩:=drop_cons g1
    obtain ⟨rfl,_,_⟩:=hb _ q1
    rw [tn (by omega)] at hx
    omega
theorem gy_ten {M : List UInt8} {k : Nat} {bad : Bool} {u k' : Nat} {bad' : Bool} (h : Gy M k bad 10 u k' bad') {y : Nat} {rest : List UInt8} (hy : y < 18446744073709551616) (hm : M.drop k = vb y ++ rest) : False:=by
  obtain ⟨g1,g2,g3,g4,g5⟩:=h y rest hy hm
  have : (18446744073709551616 : Nat) ≤ 128 ^ 10:=by decide
  omega
theorem and_one (u : Nat) (h : u < 18446744073709551616) : bits .and .u64 (u : Int) 1 = ((u % 2 : Nat) : Int):=by
  have e2 : (1 : Int) = ((1 : Nat) : Int):=rfl
  rw [e2,Go.u64_and_nat _ _ h (by omega)]
  exact congrArg _ (Nat.and_two_pow_sub_one_eq_mod u 1)
def uz (u : Nat) : Int:=if u % 2 = 1 then -(u / 2 : Nat) - 1 else (u / 2 : Nat)
theorem uz_zz (y : Int) : uz (zz y) = y:=by
  unfold uz zz
  by_cases h : 0 ≤ y
  · rw [if_pos h,if_neg (by omega)];omega
  · rw [if_neg h,if_pos (by omega)];omega
theorem uz_rng {u : Nat} (h : u < 18446744073709551616) : -9223372036854775808 ≤ uz u ∧ uz u ≤ 9223372036854775807:=by
  unfold uz
  split <;> omega
theorem rd_num {b : Nat} {a : Addr} {c : Nat} {M : List UInt8} {k : Nat} {bad : Bool} {W : World} (h : RD b a c M k bad W) :
    Calls Tryz.prog 71 #[.pointer (some ⟨b,0,none⟩)] W (RP b a c M k W (fun v k' bad'=>∃ x : Int,v = .int .i64 x ∧ (-9223372036854775808 ≤ x ∧ x ≤ 9223372036854775807) ∧ (k' = k ∨ bad = true → bad' = true) ∧ ∀ y rest,-9223372036854775808 ≤ y → y ≤ 9223372036854775807 → M.drop k = nb y ++ rest → x = y ∧ k' = k + (nb y).length ∧ bad' = bad)):=by
  have HH : Hid (RD b a c M k bad W):=h
  clear h
  go_enter Tryz.func71,Tryz.ntmps71
  go_wp2_with fail
  go_loopw [3,4] (fun s3 s4 wr=>∃ (u i k' : Nat) (bad' : Bool),s3 = .int .u64 (u : Int) ∧ s4 = .int .i64 (i : Int) ∧ i ≤ 10 ∧ (u : Int) < 18446744073709551616 ∧ Hid (RD b a c M k' bad' wr ∧ Kz b W wr ∧ k ≤ k' ∧ ((k' = k → i = 0 ∨ bad' = true) ∧ (bad = true → bad' = true)) ∧ Gy M k bad i u k' bad')) (fun _ s4 _=>10 - (intOf s4).toNat)
  case atStart =>
    refine ⟨0,0,k,bad,rfl,rfl,by omega,by omega,(⟨HH,Kz.refl _ _,Nat.le_refl _,⟨fun _=>.inl rfl,id⟩,fun y rest hy hm=>⟨?_,?_,rfl,?_,.inl rfl⟩⟩ : _ ∧ _)⟩
    · rw [Nat.pow_zero,Nat.div_one];exact hm
    · rw [Nat.pow_zero,Nat.mod_one]
    · rw [Nat.pow_zero,Nat.div_one]
  case round =>
    obtain ⟨u,i,k',bad',rfl,rfl,hi,hu,HX⟩:=hrel
    rcases Nat.lt_or_ge i 10 with hi2 | hi2
    · have hiI : (i : Int) < 10:=by omega
      have HB:=rd_byte (show _ ∧ _ from HX).1
      go_upto_region 6 with (go_at_call 73;refine HB.mono ?_;rintro e w1 ⟨v1,k1,bad1,rfl,y1,y2,y3,x,rfl,y4,y5,y6⟩)
      obtain ⟨x1,x2,x3,x4,x5⟩:=(show _ ∧ _ ∧ _ ∧ _ ∧ _ from HX)
      have hU:=ad_bits i x (u:=u) (by omega) y4
      have hUl:=ad_lt (u:=u) i x (by omega)
      have HG : Hid (Gy M k bad i u k' bad' ∧ ∀ y,M[k']? = some y → x = y.toNat ∧ k1 = k' + 1 ∧ bad1 = bad'):=(⟨x5,y6⟩ : _ ∧ _)
      have HR : Hid (RD b a c M k1 bad1 w1 ∧ Kz b W w1 ∧ k ≤ k1 ∧ (k1 = k ∨ bad = true → bad1 = true)):=(⟨y1,x2.trans y3,Nat.le_trans x3 y2,fun e=>y5 (e.elim (fun e=>.inl (by omega)) (fun e=>.inr (x4.2 e)))⟩ : _ ∧ _)
      clear HB HX x1 x2 x3 x4 x5 y1 y2 y3 y5 y6
      go_upto_region 7 with fail
      have hxI : (x : Int) < 256:=by omega
      by_cases hx : (x : Int) < 128
      · have HQ : Hid (∀ y rest, -9223372036854775808 ≤ y → y ≤ 9223372036854775807 → M.drop k = nb y ++ rest → uz (ad u i x) = y ∧ k1 = k + (nb y).length ∧ bad1 = bad) := (fun y rest h0 h1 hm => by
          obtain ⟨q1,q2,q3⟩:=gy_end HG.1 HG.2 (by omega) (zz_lt h0 h1) hm
          exact ⟨by rw [q1,uz_zz],q2,q3⟩ : ∀ y : Int,_)
        clear HG hU
        generalize ad u i x = U at *
        have HUR : Hid _:=uz_rng hUl
        have hUI : (U : Int) < 18446744073709551616:=by omega
        clear hUl
        have hA:=and_one U (by omega)
        rcases Nat.mod_two_eq_zero_or_one U with hm | hm
        · have e : uz U = ((U / 2 : Nat) : Int):=by unfold uz;rw [if_neg (by omega)]
          have HE : Hid (uz U = ((U / 2 : Nat) : Int)):=e
          rw [hm] at hA
          clear e
          go_wp2_with fail
          go_ret
          exact ⟨_,k1,bad1,rfl,HR.1,HR.2.2.1,HR.2.1,uz U,by rw [show uz U = _ from HE];rfl,HUR,HR.2.2.2,HQ⟩
        · have e : uz U = -((U / 2 : Nat) : Int) - 1:=by unfold uz;rw [if_pos hm]
          have e3 : bits BinOp.xor IntKind.i64 (if IntKind.i64.signed = true then -1 else 9223372036854775807) ((U : Int) / 2) = uz U:=by rw [if_pos (show IntKind.i64.signed = true from rfl),show (U : Int) / 2 = ((U / 2 : Nat) : Int) from rfl,Go.i64_not _ (by omega),e];omega
          rw [hm] at hA
          clear e
          go_upto_region 10 with fail
          clear hA
          go_upto_region 11 with fail
          clear e3
          generalize uz U = V at *
          go_wp2_with fail
          go_ret
          exact ⟨_,k1,bad1,rfl,HR.1,HR.2.2.1,HR.2.1,V,rfl,HUR,HR.2.2.2,HQ⟩
      · have HN : Hid (Gy M k bad (i + 1) (ad u i x) k1 bad1):=gy_next HG.1 HG.2 (by omega)
        clear HG hU
        generalize ad u i x = U at *
        have hUI : (U : Int) < 18446744073709551616:=by omega
        clear hUl
        go_wp2_with fail
        go_roundw
        case rel=>exact ⟨U,i + 1,k1,bad1,rfl,by go_num,by omega,hUI,(⟨HR.1,HR.2.1,HR.2.2.1,⟨fun e=>.inr (HR.2.2.2 (.inl e)),fun e=>HR.2.2.2 (.inr e)⟩,HN⟩ : _ ∧ _)⟩
        case measure=>simp [intOf];omega
    · obtain rfl : i = 10:=by omega
      obtain ⟨x1,x2,x3,x4,x5⟩:=(show _ ∧ _ ∧ _ ∧ _ ∧ _ from HX)
      have c2 : wr.cell? ⟨b,2,none⟩ = some (.bool bad'):=cell_of x1.blk rfl
      have f2 : wr.frozen? ⟨b,2,none⟩ = false:=frozen_of x1.blk
      have z : Kz b wr (wr.setCell ⟨b,2,none⟩ (.bool true)):=(Kz.refl b wr).set 2 _
      have HR : Hid (RD b a c M k' true (wr.setCell ⟨b,2,none⟩ (.bool true)) ∧ Kz b W (wr.setCell ⟨b,2,none⟩ (.bool true)) ∧ k ≤ k' ∧ ∀ y rest,-9223372036854775808 ≤ y → y ≤ 9223372036854775807 → M.drop k = nb y ++ rest → False):=(⟨x1.kz z (by have:=set_known (W:=wr) (j:=2) (.bool true) x1.blk;exact this) x1.le,x2.trans z,x3,fun y rest h0 h1 hm=>gy_ten x5 (zz_lt h0 h1) hm⟩ : _ ∧ _)
      clear HX x1 x2 x3 x4 x5 z hu
      go_wp2_with fail
      go_ret
      exact ⟨_,k',true,rfl,HR.1,HR.2.2.1,HR.2.1,0,rfl,⟨by omega,by omega⟩,fun _=>rfl,fun y rest h0 h1 hm=>(HR.2.2.2 y rest h0 h1 hm).elim⟩
theorem drop_app {M l r : List UInt8} {k : Nat} (h : M.drop k = l ++ r) : M.drop (k + l.length) = r:=by
  have:=congrArg (fun x=>x.drop l.length) h
  simpa [List.drop_drop] using this
theorem drop_len {M r : List UInt8} {k : Nat} (h : M.drop k = r) : M.length - k = r.length:=by rw [← h,List.length_drop]
theorem rd_count {b : Nat} {a : Addr} {c : Nat} {M : List UInt8} {k : Nat} {bad : Bool} {W : World} (h : RD b a c M k bad W) :
    Calls Tryz.prog 29 #[.pointer (some ⟨b,0,none⟩)] W (RP b a c M k W (fun v k' bad'=>∃ x : Nat,v = .int .i64 (x : Int) ∧ k' + x ≤ M.length ∧ (k' = k ∨ bad = true → bad' = true) ∧ ∀ (y : Nat) rest,y ≤ rest.length → y ≤ 9223372036854775807 → M.drop k = nb y ++ rest → x = y ∧ k' = k + (nb y).length ∧ bad' = bad)):=by
  have HB:=rd_num h
  have hsz:=h.sz
  clear h
  go_enter Tryz.func29,Tryz.ntmps29
  go_upto_region 2 with (go_at_call 71;refine HB.mono ?_;rintro e w1 ⟨v1,k1,bad1,rfl,y1,y2,y3,x,rfl,⟨y40,y41⟩,y5,y6⟩)
  clear HB
  have c0 : w1.cell? ⟨b,0,none⟩ = some (.slice (some a) M.length c):=cell_of y1.blk rfl
  have c1 : w1.cell? ⟨b,1,none⟩ = some (.int .i64 (k1 : Int)):=cell_of y1.blk rfl
  have c2 : w1.cell? ⟨b,2,none⟩ = some (.bool bad1):=cell_of y1.blk rfl
  have f2 : w1.frozen? ⟨b,2,none⟩ = false:=frozen_of y1.blk
  have hle:=y1.le
  have HB : Hid (∀ (d : Nat), RD b a c M k1 true ((w1.drewN d).setCell ⟨b, 2, none⟩ (.bool true)) ∧ Kz b W ((w1.drewN d).setCell ⟨b, 2, none⟩ (.bool true)) ∧ k ≤ k1) := (fun d => by
      have z : Kz b w1 ((w1.drewN d).setCell ⟨b,2,none⟩ (.bool true)):=((Kz.refl b w1).drewN d).set 2 _
      exact ⟨y1.kz z (by have:=set_known (W:=w1.drewN d) (j:=2) (.bool true) y1.blk;exact this) (by omega),y3.trans z,y2⟩ : ∀ d : Nat,_)
  have hw : IntKind.i64.wrap (((M.length : Nat) : Int) - (k1 : Int)) = ((M.length : Nat) : Int) - (k1 : Int):=by rw [IntKind.wrap_i64];omega
  by_cases hx0 : x < 0
  · have hd : decide (x < 0) = true:=decide_eq_true hx0
    have HN : Hid (∀ (y : Nat) rest,y ≤ rest.length → y ≤ 9223372036854775807 → M.drop k = nb y ++ rest → False):=(fun y rest h1 h2 hm=>by
      obtain ⟨q1,q2,q3⟩:=y6 y rest (by omega) (by omega) hm
      omega : ∀ y : Nat,_)
    clear y6 y1 y2 y3 y5
    generalize hN : M.length = n at *
    go_wp2_with fail
    go_quiet (skip)
    go_wp2_with fail
    go_ret
    obtain ⟨q1,q2,q3⟩:=(show ∀ d : Nat,_ from HB) nq
    exact ⟨_,k1,true,rfl,q1,q3,q2,0,rfl,by omega,fun _=>rfl,fun y rest h1 h2 hm=>(HN y rest h1 h2 hm).elim⟩
  · by_cases hx1 : ((M.length : Nat) : Int) - (k1 : Int) < x
    · have HN : Hid (∀ (y : Nat) rest, y ≤ rest.length → y ≤ 9223372036854775807 → M.drop k = nb y ++ rest → False) := (fun y rest h1 h2 hm => by
        obtain ⟨q1,q2,q3⟩:=y6 y rest (by omega) (by omega) hm
        have:=drop_len (drop_app hm)
        omega : ∀ y : Nat,_)
      clear y6 y1 y2 y3 y5
      generalize hN : M.length = n at *
      go_wp2_with fail
      go_quiet (skip)
      go_wp2_with fail
      go_ret
      obtain ⟨q1,q2,q3⟩:=(show ∀ d : Nat,_ from HB) nq
      exact ⟨_,k1,true,rfl,q1,q3,q2,0,rfl,by omega,fun _=>rfl,fun y rest h1 h2 hm=>(HN y rest h1 h2 hm).elim⟩
    · obtain ⟨X,rfl⟩ : ∃ X : Nat,x = (X : Int):=⟨x.toNat,by omega⟩
      have HN : Hid (RD b a c M k1 bad1 w1 ∧ Kz b W w1 ∧ k ≤ k1 ∧ (k1 = k ∨ bad = true → bad1 = true) ∧ ∀ (y : Nat) rest,y ≤ rest.length → y ≤ 9223372036854775807 → M.drop k = nb y ++ rest → X = y ∧ k1 = k + (nb y).length ∧ bad1 = bad):=(⟨y1,y3,y2,y5,fun y rest h1 h2 hm=>by
        obtain ⟨q1,q2,q3⟩:=y6 y rest (by omega) (by omega) hm
        exact ⟨by omega,q2,q3⟩⟩ : _ ∧ _)
      clear y6 y1 y2 y3 y5 HB
      generalize hN : M.length = n at *
      go_wp2_with fail
      go_quiet (skip)
      go_wp2_with fail
      go_ret
      obtain ⟨q1,q2,q3,q4,q5⟩:=(show _ ∧ _ ∧ _ ∧ _ ∧ _ from HN)
      exact ⟨_,k1,bad1,rfl,⟨q1.blk,q1.le,q1.sz,q1.cap,q1.ne,q1.row⟩,q3,q2.drewN _,X,rfl,by omega,q4,q5⟩
theorem rd_text {b : Nat} {a : Addr} {c : Nat} {M : List UInt8} {k : Nat} {bad : Bool} {W : World} (h : RD b a c M k bad W) :
    Calls Tryz.prog 72 #[.pointer (some ⟨b,0,none⟩)] W (RP b a c M k W (fun v k' bad'=>∃ x : ByteArray,v = .string x ∧ k + x.size ≤ k' ∧ (k' = k ∨ bad = true → bad' = true) ∧ ∀ (y : ByteArray) rest,y.size ≤ 9223372036854775807 → M.drop k = tb y ++ rest → x = y ∧ k' = k + (tb y).length ∧ bad' = bad)):=by
  have HB:=rd_count h
  have hsz:=h.sz
  have hcap:=h.cap
  clear h
  go_enter Tryz.func72,Tryz.ntmps72
  go_upto_region 2 with (go_at_call 29;refine HB.mono ?_;rintro e w1 ⟨v1,k1,bad1,rfl,y1,y2,y3,x,rfl,y4,y5,y6⟩)
  clear HB
  have c0 : w1.cell? ⟨b,0,none⟩ = some (.slice (some a) M.length c):=cell_of y1.blk rfl
  have c1 : w1.cell? ⟨b,1,none⟩ = some (.int .i64 (k1 : Int)):=cell_of y1.blk rfl
  have f1 : w1.frozen? ⟨b,1,none⟩ = false:=frozen_of y1.blk
  have hle:=y1.le
  have HC : Hid (∀ (d : Nat) (cc : Nat),(convert 26 9 (.slice (some (a.add k1)) x cc)).run Tryz.prog (w1.drewN d) = .ok (.string ⟨((M.drop k1).take x).toArray⟩) (w1.drewN d)):=(fun d cc=>by
    have e : ((M.drop k1).take x).length = x:=by rw [List.length_take,List.length_drop];omega
    have:=run_convert_bytes_back (w1.drewN d) 26 9 5 (a.add k1) cc ((M.drop k1).take x) Tryz.underlying26 Tryz.underlying5 Tryz.underlying9 (P:=Tryz.prog) (fun j hj=>?_)
    · rw [e] at this;exact this
    · have hj2 : j < x:=by rw [e] at hj;exact hj
      have hr:=y1.row (k1 + j) (((M.drop k1).take x)[j]) (by rw [List.getElem_take,List.getElem_drop];exact List.getElem?_eq_getElem (by omega))
      rw [Addr.add_add];exact hr : ∀ (d cc : Nat),_)
  have HF : Hid (∀ d : Nat,RD b a c M (k1 + x) bad1 ((w1.drewN d).setCell ⟨b,1,none⟩ (.int .i64 ((k1 : Int) + (x : Int)))) ∧ Kz b W ((w1.drewN d).setCell ⟨b,1,none⟩ (.int .i64 ((k1 : Int) + (x : Int))))):=(fun d=>by
    have z : Kz b w1 ((w1.drewN d).setCell ⟨b,1,none⟩ (.int .i64 ((k1 : Int) + (x : Int)))):=((Kz.refl b w1).drewN d).set 1 _
    exact ⟨y1.kz z (by have:=set_known (W:=w1.drewN d) (j:=1) (.int .i64 ((k1 : Int) + (x : Int))) y1.blk;exact this) (by omega),y3.trans z⟩ : ∀ d : Nat,_)
  have HQ : Hid (∃ X : ByteArray,X = ⟨((M.drop k1).take x).toArray⟩ ∧ k + X.size ≤ k1 + x ∧ k ≤ k1 + x ∧ (k1 + x = k ∨ bad = true → bad1 = true) ∧ ∀ (y : ByteArray) rest,y.size ≤ 9223372036854775807 → M.drop k = tb y ++ rest → X = y ∧ k1 + x = k + (tb y).length ∧ bad1 = bad):=(⟨_,rfl,by rw [ba_size,List.length_take];omega,by omega,fun e=>y5 (e.imp (fun e=>by omega) id),fun y rest h1 hm=>by
    unfold tb at hm ⊢
    rw [List.append_assoc] at hm
    obtain ⟨q1,q2,q3⟩:=y6 y.size (y.data.toList ++ rest) (by rw [List.length_append,sz_len];omega) h1 hm
    have q4:=drop_app hm
    rw [← q2] at q4
    refine ⟨?_,by rw [List.length_append,sz_len];omega,q3⟩
    rw [q4,q1,← sz_len,List.take_left]⟩ : ∃ X : ByteArray,_)
  have c2:=hcap
  have hE1 : (k1 : Int) ≤ (k1 : Int) + (x : Int):=by omega
  have hE2 : (k1 : Int) + (x : Int) ≤ (c : Int):=by omega
  have hE3 : (0 : Int) ≤ (k1 : Int):=by omega
  have hw : IntKind.i64.wrap ((k1 : Int) + (x : Int)) = ((k1 + x : Nat) : Int):=by rw [IntKind.wrap_i64];omega
  generalize hN : M.length = n at *
  have hE4 : k1 ≤ k1 + x:=by omega
  have hE5 : k1 + x ≤ c:=by omega
  have HCZ : Hid (∀ (d : Nat),(convert 26 9 (.slice (some a) 0 0)).run Tryz.prog (w1.drewN d) = .ok (.string ⟨#[]⟩) (w1.drewN d)):=(fun d=>run_convert_bytes_back (w1.drewN d) 26 9 5 a 0 [] Tryz.underlying26 Tryz.underlying5 Tryz.underlying9 (P:=Tryz.prog) (fun j hj=>by simp at hj) : ∀ d : Nat,_)
  clear y1 y2 y3 y5 y6
  by_cases hck : c = k1
  · subst hck
    obtain rfl : x = 0:=by omega
    have hcv : ∀ d : Nat,(convert 26 9 (.slice (some a) 0 0)).run Tryz.prog (w1.drewN d) = .ok (.string ⟨#[]⟩) (w1.drewN d):=HCZ
    clear HC HCZ hw hE1 hE2 hE4 hE5
    go_wp2_with fail
    go_quiet (skip)
    go_wp2_with fail
    go_ret
    obtain ⟨q1,q2⟩:=(show ∀ d : Nat,_ from HF) nq
    obtain ⟨X,e,x1,x2,x3,x4⟩:=(show ∃ X : ByteArray,_ from HQ)
    exact ⟨_,c + 0,bad1,rfl,q1,x2,q2,X,by rw [e];rfl,x1,x3,x4⟩
  · have hcv : ∀ d : Nat, (convert 26 9 (.slice (some (a.add k1)) (((k1 : Int) + (x : Int)).toNat - k1) (c - k1))).run Tryz.prog (w1.drewN d) = .ok (.string ⟨((M.drop k1).take x).toArray⟩) (w1.drewN d) := fun d => by
      rw [show ((k1 : Int) + (x : Int)).toNat - k1 = x by omega]
      exact HC d _
    clear HC HCZ
    go_wp2_with fail
    go_quiet (skip)
    go_wp2_with fail
    go_ret
    obtain ⟨q1,q2⟩:=(show ∀ d : Nat,_ from HF) nq
    obtain ⟨X,e,x1,x2,x3,x4⟩:=(show ∃ X : ByteArray,_ from HQ)
    exact ⟨_,k1 + x,bad1,rfl,q1,x2,q2,X,by rw [e];rfl,x1,x3,x4⟩
end Go.Proofs.YtnmeemjoodoalaaGreatDoor.Fo
