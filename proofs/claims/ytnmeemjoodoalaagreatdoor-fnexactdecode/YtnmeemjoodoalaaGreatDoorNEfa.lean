import Derived.Test.YtnmeemjoodoalaaGreatDoorNCba
import Derived.Test.YtnmeemjoodoalaaGreatDoorNBab
set_option maxHeartbeats 8000000
namespace Go.Proofs.YtnmeemjoodoalaaGreatDoor.Fo
open Go.ChangeShapes Go.WideShapes Go.ChangeAt Go.RowKit
set_option linter.unusedVariables false
set_option maxRecDepth 100000
def FzO (b : Nat) (W : World) (pa : Option Addr) (n cap : Nat) : Prop:=∃ g,pa = some ⟨g,0,none⟩ ∧ cap = n ∧ b ≤ g ∧ g < W.heap.size ∧ ∀ j,W.frozen? ⟨g,j,none⟩ = false
theorem FzO.keep {b : Nat} {W W' : World} {pa : Option Addr} {n cap : Nat} (h : FzO b W pa n cap) (k : Kb b W W') : FzO b W' pa n cap:=by
  obtain ⟨g,h1,h2,h3,h4,h5⟩:=h
  exact ⟨g,h1,h2,h3,Nat.lt_of_lt_of_le h4 k.size,fun j=>(k.frozen h3 h4).trans (h5 j)⟩
theorem FzO.mono {b c : Nat} {W : World} {pa : Option Addr} {n cap : Nat} (h : FzO b W pa n cap) (hc : c ≤ b) : FzO c W pa n cap:=by
  obtain ⟨g,h1,h2,h3,h4,h5⟩:=h
  exact ⟨g,h1,h2,Nat.le_trans hc h3,h4,h5⟩
def RowUF (b : Nat) (W : World) (v : Value) (n : Nat) (X : Nat → Bool × Int) : Prop:=∃ pa cap,v = .slice pa n cap ∧ RowU b W (.slice pa n cap) n X ∧ FzO b W pa n cap
theorem RowUF.keep {b : Nat} {W W' : World} {v : Value} {n : Nat} {X : Nat → Bool × Int} (h : RowUF b W v n X) (k : Kb b W W') : RowUF b W' v n X:=by
  obtain ⟨pa,cap,h1,h2,h3⟩:=h
  exact ⟨pa,cap,h1,h2.keep k,h3.keep k⟩
theorem RowUF.mono {b c : Nat} {W : World} {v : Value} {n : Nat} {X : Nat → Bool × Int} (h : RowUF b W v n X) (hc : c ≤ b) : RowUF c W v n X:=by
  obtain ⟨pa,cap,h1,h2,h3⟩:=h
  exact ⟨pa,cap,h1,h2.mono hc,h3.mono hc⟩
theorem RowUF.row {b : Nat} {W : World} {v : Value} {n : Nat} {X : Nat → Bool × Int} (h : RowUF b W v n X) : RowU b W v n X:=by
  obtain ⟨pa,cap,h1,h2,h3⟩:=h
  rw [h1];exact h2
def RowWF (b : Nat) (W : World) (v : Value) (n : Nat) (X : Nat → Vv) : Prop:=∃ pa cap,v = .slice pa n cap ∧ RowW b W (.slice pa n cap) n X ∧ FzO b W pa n cap
theorem RowWF.keep {b : Nat} {W W' : World} {v : Value} {n : Nat} {X : Nat → Vv} (h : RowWF b W v n X) (k : Kb b W W') : RowWF b W' v n X:=by
  obtain ⟨pa,cap,h1,h2,h3⟩:=h
  exact ⟨pa,cap,h1,h2.keep k,h3.keep k⟩
theorem RowWF.mono {b c : Nat} {W : World} {v : Value} {n : Nat} {X : Nat → Vv} (h : RowWF b W v n X) (hc : c ≤ b) : RowWF c W v n X:=by
  obtain ⟨pa,cap,h1,h2,h3⟩:=h
  exact ⟨pa,cap,h1,h2.mono hc,h3.mono hc⟩
theorem RowWF.row {b : Nat} {W : World} {v : Value} {n : Nat} {X : Nat → Vv} (h : RowWF b W v n X) : RowW b W v n X:=by
  obtain ⟨pa,cap,h1,h2,h3⟩:=h
  rw [h1];exact h2
def RowIF (b : Nat) (W : World) (v : Value) (n : Nat) (X : Nat → Iv) : Prop:=∃ pa cap,v = .slice pa n cap ∧ RowI b W (.slice pa n cap) n X ∧ FzO b W pa n cap
theorem RowIF.keep {b : Nat} {W W' : World} {v : Value} {n : Nat} {X : Nat → Iv} (h : RowIF b W v n X) (k : Kb b W W') : RowIF b W' v n X:=by
  obtain ⟨pa,cap,h1,h2,h3⟩:=h
  exact ⟨pa,cap,h1,h2.keep k,h3.keep k⟩
theorem RowIF.mono {b c : Nat} {W : World} {v : Value} {n : Nat} {X : Nat → Iv} (h : RowIF b W v n X) (hc : c ≤ b) : RowIF c W v n X:=by
  obtain ⟨pa,cap,h1,h2,h3⟩:=h
  exact ⟨pa,cap,h1,h2.mono hc,h3.mono hc⟩
theorem RowIF.row {b : Nat} {W : World} {v : Value} {n : Nat} {X : Nat → Iv} (h : RowIF b W v n X) : RowI b W v n X:=by
  obtain ⟨pa,cap,h1,h2,h3⟩:=h
  rw [h1];exact h2
def RowMF (b : Nat) (W : World) (v : Value) (n : Nat) (X : Nat → Mv) : Prop:=∃ pa cap,v = .slice pa n cap ∧ RowM b W (.slice pa n cap) n X ∧ FzO b W pa n cap
theorem RowMF.keep {b : Nat} {W W' : World} {v : Value} {n : Nat} {X : Nat → Mv} (h : RowMF b W v n X) (k : Kb b W W') : RowMF b W' v n X:=by
  obtain ⟨pa,cap,h1,h2,h3⟩:=h
  exact ⟨pa,cap,h1,h2.keep k,h3.keep k⟩
theorem RowMF.mono {b c : Nat} {W : World} {v : Value} {n : Nat} {X : Nat → Mv} (h : RowMF b W v n X) (hc : c ≤ b) : RowMF c W v n X:=by
  obtain ⟨pa,cap,h1,h2,h3⟩:=h
  exact ⟨pa,cap,h1,h2.mono hc,h3.mono hc⟩
theorem RowMF.row {b : Nat} {W : World} {v : Value} {n : Nat} {X : Nat → Mv} (h : RowMF b W v n X) : RowM b W v n X:=by
  obtain ⟨pa,cap,h1,h2,h3⟩:=h
  rw [h1];exact h2
def RowPF (b : Nat) (W : World) (v : Value) (n : Nat) (F : Nat → Pd) : Prop:=∃ g,v = .slice (some ⟨g,0,none⟩) n n ∧ b ≤ g ∧ g < W.heap.size ∧ (∀ j,W.frozen? ⟨g,j,none⟩ = false) ∧ ∀ i,i < n → ∃ vu vc vn vd,CelP W ⟨g,i * 9,none⟩ (F i) vu vc vn vd ∧ RowUF (g + 1) W vu (F i).u (F i).U ∧ RowWF (g + 1) W vc (F i).c (F i).C ∧ RowIF (g + 1) W vn (F i).n (F i).N ∧ RowMF (g + 1) W vd (F i).d (F i).D
theorem RowPF.keep {b : Nat} {W W' : World} {v : Value} {n : Nat} {F : Nat → Pd} (h : RowPF b W v n F) (k : Kb b W W') : RowPF b W' v n F:=by
  obtain ⟨g,h1,h2,h3,h4,h5⟩:=h
  refine ⟨g,h1,h2,Nat.lt_of_lt_of_le h3 k.size,fun j=>(k.frozen h2 h3).trans (h4 j),fun i hi=>?_⟩
  obtain ⟨vu,vc,vn,vd,c,r1,r2,r3,r4⟩:=h5 i hi
  exact ⟨vu,vc,vn,vd,c.keep h2 k,r1.keep (k.mono (by omega)),r2.keep (k.mono (by omega)),r3.keep (k.mono (by omega)),r4.keep (k.mono (by omega))⟩
theorem RowPF.row {b : Nat} {W : World} {v : Value} {n : Nat} {F : Nat → Pd} (h : RowPF b W v n F) : RowP b W v n F:=by
  obtain ⟨g,h1,h2,h3,h4,h5⟩:=h
  refine ⟨_,_,h1,fun _=>⟨_,rfl,Nat.le_refl _,h2,fun i hi=>?_⟩⟩
  obtain ⟨vu,vc,vn,vd,c,r1,r2,r3,r4⟩:=h5 i hi
  rw [addr0]
  exact ⟨vu,vc,vn,vd,c,r1.row.mono (by omega),r2.row.mono (by omega),r3.row.mono (by omega),r4.row.mono (by omega)⟩
structure K1 (g : Nat) (W w' : World) : Prop where
  os : w'.os = W.os
  output : w'.output = W.output
  size : W.heap.size ≤ w'.heap.size
  block : ∀ b,b < W.heap.size → b ≠ g → w'.heap[b]? = W.heap[b]?
  cell : ∀ j,(∃ u,W.cell? ⟨g,j,none⟩ = some u) → ∃ u,w'.cell? ⟨g,j,none⟩ = some u
  fz : ∀ j,g < W.heap.size → w'.frozen? ⟨g,j,none⟩ = W.frozen? ⟨g,j,none⟩
theorem K1.refl (g : Nat) (W : World) : K1 g W W:=⟨rfl,rfl,Nat.le_refl _,fun _ _ _=>rfl,fun _ h=>h,fun _ _=>rfl⟩
theorem K1.trans {g : Nat} {a b c : World} (h : K1 g a b) (k : K1 g b c) : K1 g a c :=
  ⟨k.os.trans h.os,k.output.trans h.output,Nat.le_trans h.size k.size,fun i hi hg=>(k.block i (Nat.lt_of_lt_of_le hi h.size) hg).trans (h.block i hi hg),fun j hj=>k.cell j (h.cell j hj),fun j hg=>(k.fz j (Nat.lt_of_lt_of_le hg h.size)).trans (h.fz j hg)⟩
theorem K1.of_kb {g : Nat} {W w' : World} (k : Kb 0 W w') : K1 g W w' :=
  ⟨k.os,k.output,k.size,fun b hb _=>k.block b (Nat.zero_le _) hb,fun j ⟨u,hu⟩=>⟨u,k.cell hu⟩,fun j hg=>k.frozen (Nat.zero_le _) hg⟩
theorem K1.set1 (g : Nat) (W : World) (j : Nat) (v : Value) : K1 g W (W.setCell ⟨g,j,none⟩ v):=by
  refine ⟨rfl,rfl,by simp [World.setCell],fun b _ hb=>Below.heap_setCell _ _ _ _ hb,fun i ⟨u,hu⟩=>?_,fun i _=>?_⟩
  · by_cases e : i = j
    · subst e
      exact ⟨v,set_eq _ _ _ _ _ hu⟩
    · exact ⟨u,by rw [set_ne _ _ _ _ _ (by omega)];exact hu⟩
  · exact set_fz _ _ _ _ _
def mkI (x : Int) : Value:=.int .i64 x
def mkB (x : Int) : Value:=.bool (x % 3 == 0)
def mkS (x : Int) : Value:=.string (⟨#[109]⟩ ++ mtl x.toNat ⟨#[]⟩)
def mkF (x : Int) : Value:=.float .f64 (floatOfInt .f64 x)
def vU (t : Nat) (x : Int) : Value:=if t = 0 then mkB x else mkI x
def vI (t : Nat) (x : Int) : Value:=mkI x
def vM (t : Nat) (x : Int) : Value:=if t = 0 then mkS x else mkI x
def vV (t : Nat) (x : Int) : Value:=if t = 2 then mkF x else if t = 3 then mkS x else mkI x
def CJ (V : Nat → Int → Value) (c g : Nat) (k : Int) (m : Nat) (w : World) : Prop:=∀ j,j < m → w.cell? ⟨g,j,none⟩ = some (V (j % c) (k + (j : Int)))
theorem CJ.set {V : Nat → Int → Value} {c g : Nat} {k : Int} {m : Nat} {w : World} (h : CJ V c g k m w) {v u : Value} (hu : w.cell? ⟨g,m,none⟩ = some u) (e : v = V (m % c) (k + (m : Int))) : CJ V c g k (m + 1) (w.setCell ⟨g,m,none⟩ v):=by
  intro j hj
  by_cases ej : j = m
  · subst ej
    rw [← e]
    exact set_eq _ _ _ _ _ hu
  · rw [set_ne _ _ _ _ _ (by omega)]
    exact h j (by omega)
theorem CJ.kb {V : Nat → Int → Value} {c g : Nat} {k : Int} {m : Nat} {w w' : World} (h : CJ V c g k m w) (b : Kb 0 w w') : CJ V c g k m w':=fun j hj=>b.cell (h j hj)
theorem mrk_ups {W : World} {pa : Option Addr} {g n cp : Nat} (k : Int) (h1 : 1 ≤ k) (h2 : k ≤ 500000000) (hn : n ≤ 1048576) (hr : 0 < n → pa = some ⟨g, 0, none⟩ ∧ (∀ j, j < n * 2 → ∃ u, W.cell? ⟨g, j, none⟩ = some u) ∧ (∀ j, W.frozen? ⟨g, j, none⟩ = false) ∧ g < W.heap.size) :
    Calls Tryz.prog 67 #[.slice pa n cp,.int .i64 k] W fun e w'=>e = .returned (.int .i64 (k + 2 * (n : Int))) ∧ K1 g W w' ∧ CJ vU 2 g k (n * 2) w':=by
  have hst : ∀ (a : Addr) (n : Nat) (m : Mode) (w : World),(store a (.float .f64 n) m).run Tryz.prog w = stored Tryz.prog w a (.float .f64 n) m:=fun a n m w=>run_store _ _ _ _ _ rfl
  have HH0 : Hid (0 < n → pa = some ⟨g,0,none⟩ ∧ (∀ j,j < n * 2 → ∃ u,W.cell? ⟨g,j,none⟩ = some u) ∧ (∀ j,W.frozen? ⟨g,j,none⟩ = false) ∧ g < W.heap.size):=hr
  have hnI : (n : Int) ≤ 1048576:=by omega
  clear hr hn
  go_enter Tryz.func67,Tryz.ntmps67
  go_wp2_with fail
  go_loopw [1,5] (fun s1 s5 wr=>∃ i : Nat,i ≤ n ∧ s5 = .int .i64 (i : Int) ∧ s1 = .int .i64 (k + 2 * (i : Int)) ∧ Hid (K1 g W wr ∧ CJ vU 2 g k (i * 2) wr)) (fun _ s5 _=>n - (intOf s5).toNat)
  case atStart=>exact ⟨0,by omega,rfl,by simp,(⟨K1.refl _ _,fun j hj=>by omega⟩ : _ ∧ _)⟩
  case round =>
    obtain ⟨i,hi,rfl,rfl,HK⟩:=hrel
    by_cases hin : i < n
    · obtain ⟨rfl,hhh⟩:=(show 0 < n → _ from HH0) (by omega)
      have HH : Hid ((∀ j,j < n * 2 → ∃ u,W.cell? ⟨g,j,none⟩ = some u) ∧ (∀ j,W.frozen? ⟨g,j,none⟩ = false) ∧ g < W.heap.size):=hhh
      clear hhh
      have hI : (i : Int) < (n : Int):=by omega
      have hb : i * 2 + 2 ≤ n * 2:=by have:=Nat.mul_le_mul_right 2 (show i + 1 ≤ n from hin);rw [Nat.succ_mul] at this;exact this
      obtain ⟨K,hK⟩ : ∃ K : Int,K = k + 2 * (i : Int):=⟨_,rfl⟩
      have hK1 : 1 ≤ K:=by omega
      have hK2 : K ≤ 600000000:=by omega
      have HKK : Hid (K = k + 2 * (i : Int) ∧ i * 2 + 2 ≤ n * 2):=(⟨hK,hb⟩ : _ ∧ _)
      rw [← hK]
      clear hK hb
      obtain ⟨u0,cu0⟩:=(show K1 g W wr ∧ _ from HK).1.cell (i * 2 + 0) ((show _ ∧ _ ∧ _ from HH).1 _ (by have:=(show _ ∧ _ from HKK).2;omega))
      have cf0 : wr.frozen? ⟨g,i * 2 + 0,none⟩ = false:=((show K1 g W wr ∧ _ from HK).1.fz _ (show _ ∧ _ ∧ _ from HH).2.2).trans ((show _ ∧ _ ∧ _ from HH).2.1 _)
      rw [Nat.add_zero] at cu0 cf0
      go_upto_region 5 with fail
      generalize hy : World.setCell wr _ _ = y0
      have HK0 : Hid (K1 g W y0 ∧ CJ vU 2 g k (i * 2 + 1) y0):=by
        rw [← hy]
        refine (⟨(show K1 g W wr ∧ _ from HK).1.trans (K1.set1 _ _ _ _),(show _ ∧ CJ _ _ _ _ _ wr from HK).2.set cu0 ?_⟩ : _ ∧ _)
        have e0 : (i * 2) % 2 = 0:=by omega
        have e1 : k + ((i * 2 : Nat) : Int) = K + 0:=by have:=(show _ ∧ _ from HKK).1;omega
        rw [e0,e1]
        show _ = mkB (K + 0)
        rw [show K + (0 : Int) = K by omega]
        rfl
      clear hy cu0 cf0 u0 HK
      obtain ⟨u1,cu1⟩:=(show K1 g W y0 ∧ _ from HK0).1.cell (i * 2 + 1) ((show _ ∧ _ ∧ _ from HH).1 _ (by have:=(show _ ∧ _ from HKK).2;omega))
      have cf1 : y0.frozen? ⟨g,i * 2 + 1,none⟩ = false:=((show K1 g W y0 ∧ _ from HK0).1.fz _ (show _ ∧ _ ∧ _ from HH).2.2).trans ((show _ ∧ _ ∧ _ from HH).2.1 _)
      go_upto_region 7 with fail
      generalize hy : World.setCell y0 _ _ = y1
      have HK1 : Hid (K1 g W y1 ∧ CJ vU 2 g k (i * 2 + 1 + 1) y1):=by
        rw [← hy]
        refine (⟨(show K1 g W y0 ∧ _ from HK0).1.trans (K1.set1 _ _ _ _),(show _ ∧ CJ _ _ _ _ _ y0 from HK0).2.set cu1 ?_⟩ : _ ∧ _)
        have e0 : (i * 2 + 1) % 2 = 1:=by omega
        have e1 : k + ((i * 2 + 1 : Nat) : Int) = K + 1:=by have:=(show _ ∧ _ from HKK).1;omega
        rw [e0,e1]
        show _ = mkI (K + 1)
        rw [show K + (1 : Int) = K + 1 by omega]
        rfl
      clear hy cu1 cf1 u1 HK0
      go_wp2_with fail
      go_roundw
      case rel=>exact ⟨i + 1,by omega,by go_num,by rw [(show _ ∧ _ from HKK).1];congr 1;omega,(⟨(show K1 g W y1 ∧ _ from HK1).1,by have:=(show _ ∧ CJ _ _ _ _ _ y1 from HK1).2;rw [show (i + 1) * 2 = i * 2 + 1 + 1 by omega];exact this⟩ : _ ∧ _)⟩
      case measure=>simp [intOf];omega
    · obtain rfl : i = n:=by omega
      have hI : ¬ (i : Int) < (i : Int):=by omega
      clear HH0
      go_wp2_with fail
      go_ret
      exact ⟨rfl,(show K1 g W wr ∧ _ from HK).1,(show _ ∧ CJ _ _ _ _ _ wr from HK).2⟩
theorem mrk_inss {W : World} {pa : Option Addr} {g n cp : Nat} (k : Int) (h1 : 1 ≤ k) (h2 : k ≤ 500000000) (hn : n ≤ 1048576) (hr : 0 < n → pa = some ⟨g, 0, none⟩ ∧ (∀ j, j < n * 5 → ∃ u, W.cell? ⟨g, j, none⟩ = some u) ∧ (∀ j, W.frozen? ⟨g, j, none⟩ = false) ∧ g < W.heap.size) :
    Calls Tryz.prog 69 #[.slice pa n cp,.int .i64 k] W fun e w'=>e = .returned (.int .i64 (k + 5 * (n : Int))) ∧ K1 g W w' ∧ CJ vI 5 g k (n * 5) w':=by
  have hst : ∀ (a : Addr) (n : Nat) (m : Mode) (w : World),(store a (.float .f64 n) m).run Tryz.prog w = stored Tryz.prog w a (.float .f64 n) m:=fun a n m w=>run_store _ _ _ _ _ rfl
  have HH0 : Hid (0 < n → pa = some ⟨g,0,none⟩ ∧ (∀ j,j < n * 5 → ∃ u,W.cell? ⟨g,j,none⟩ = some u) ∧ (∀ j,W.frozen? ⟨g,j,none⟩ = false) ∧ g < W.heap.size):=hr
  have hnI : (n : Int) ≤ 1048576:=by omega
  clear hr hn
  go_enter Tryz.func69,Tryz.ntmps69
  go_wp2_with fail
  go_loopw [1,5] (fun s1 s5 wr=>∃ i : Nat,i ≤ n ∧ s5 = .int .i64 (i : Int) ∧ s1 = .int .i64 (k + 5 * (i : Int)) ∧ Hid (K1 g W wr ∧ CJ vI 5 g k (i * 5) wr)) (fun _ s5 _=>n - (intOf s5).toNat)
  case atStart=>exact ⟨0,by omega,rfl,by simp,(⟨K1.refl _ _,fun j hj=>by omega⟩ : _ ∧ _)⟩
  case round =>
    obtain ⟨i,hi,rfl,rfl,HK⟩:=hrel
    by_cases hin : i < n
    · obtain ⟨rfl,hhh⟩:=(show 0 < n → _ from HH0) (by omega)
      have HH : Hid ((∀ j,j < n * 5 → ∃ u,W.cell? ⟨g,j,none⟩ = some u) ∧ (∀ j,W.frozen? ⟨g,j,none⟩ = false) ∧ g < W.heap.size):=hhh
      clear hhh
      have hI : (i : Int) < (n : Int):=by omega
      have hb : i * 5 + 5 ≤ n * 5:=by have:=Nat.mul_le_mul_right 5 (show i + 1 ≤ n from hin);rw [Nat.succ_mul] at this;exact this
      obtain ⟨K,hK⟩ : ∃ K : Int,K = k + 5 * (i : Int):=⟨_,rfl⟩
      have hK1 : 1 ≤ K:=by omega
      have hK2 : K ≤ 600000000:=by omega
      have HKK : Hid (K = k + 5 * (i : Int) ∧ i * 5 + 5 ≤ n * 5):=(⟨hK,hb⟩ : _ ∧ _)
      rw [← hK]
      clear hK hb
      obtain ⟨u0,cu0⟩:=(show K1 g W wr ∧ _ from HK).1.cell (i * 5 + 0) ((show _ ∧ _ ∧ _ from HH).1 _ (by have:=(show _ ∧ _ from HKK).2;omega))
      have cf0 : wr.frozen? ⟨g,i * 5 + 0,none⟩ = false:=((show K1 g W wr ∧ _ from HK).1.fz _ (show _ ∧ _ ∧ _ from HH).2.2).trans ((show _ ∧ _ ∧ _ from HH).2.1 _)
      rw [Nat.add_zero] at cu0 cf0
      go_upto_region 5 with fail
      generalize hy : World.setCell wr _ _ = y0
      have HK0 : Hid (K1 g W y0 ∧ CJ vI 5 g k (i * 5 + 1) y0):=by
        rw [← hy]
        refine (⟨(show K1 g W wr ∧ _ from HK).1.trans (K1.set1 _ _ _ _),(show _ ∧ CJ _ _ _ _ _ wr from HK).2.set cu0 ?_⟩ : _ ∧ _)
        have e0 : (i * 5) % 5 = 0:=by omega
        have e1 : k + ((i * 5 : Nat) : Int) = K + 0:=by have:=(show _ ∧ _ from HKK).1;omega
        rw [e0,e1]
        show _ = mkI (K + 0)
        rw [show K + (0 : Int) = K by omega]
        rfl
      clear hy cu0 cf0 u0 HK
      obtain ⟨u1,cu1⟩:=(show K1 g W y0 ∧ _ from HK0).1.cell (i * 5 + 1) ((show _ ∧ _ ∧ _ from HH).1 _ (by have:=(show _ ∧ _ from HKK).2;omega))
      have cf1 : y0.frozen? ⟨g,i * 5 + 1,none⟩ = false:=((show K1 g W y0 ∧ _ from HK0).1.fz _ (show _ ∧ _ ∧ _ from HH).2.2).trans ((show _ ∧ _ ∧ _ from HH).2.1 _)
      go_upto_region 7 with fail
      generalize hy : World.setCell y0 _ _ = y1
      have HK1 : Hid (K1 g W y1 ∧ CJ vI 5 g k (i * 5 + 1 + 1) y1):=by
        rw [← hy]
        refine (⟨(show K1 g W y0 ∧ _ from HK0).1.trans (K1.set1 _ _ _ _),(show _ ∧ CJ _ _ _ _ _ y0 from HK0).2.set cu1 ?_⟩ : _ ∧ _)
        have e0 : (i * 5 + 1) % 5 = 1:=by omega
        have e1 : k + ((i * 5 + 1 : Nat) : Int) = K + 1:=by have:=(show _ ∧ _ from HKK).1;omega
        rw [e0,e1]
        show _ = mkI (K + 1)
        rw [show K + (1 : Int) = K + 1 by omega]
        rfl
      clear hy cu1 cf1 u1 HK0
      obtain ⟨u2,cu2⟩:=(show K1 g W y1 ∧ _ from HK1).1.cell (i * 5 + 2) ((show _ ∧ _ ∧ _ from HH).1 _ (by have:=(show _ ∧ _ from HKK).2;omega))
      have cf2 : y1.frozen? ⟨g,i * 5 + 2,none⟩ = false:=((show K1 g W y1 ∧ _ from HK1).1.fz _ (show _ ∧ _ ∧ _ from HH).2.2).trans ((show _ ∧ _ ∧ _ from HH).2.1 _)
      go_upto_region 9 with fail
      generalize hy : World.setCell y1 _ _ = y2
      have HK2 : Hid (K1 g W y2 ∧ CJ vI 5 g k (i * 5 + 2 + 1) y2):=by
        rw [← hy]
        refine (⟨(show K1 g W y1 ∧ _ from HK1).1.trans (K1.set1 _ _ _ _),(show _ ∧ CJ _ _ _ _ _ y1 from HK1).2.set cu2 ?_⟩ : _ ∧ _)
        have e0 : (i * 5 + 2) % 5 = 2:=by omega
        have e1 : k + ((i * 5 + 2 : Nat) : Int) = K + 2:=by have:=(show _ ∧ _ from HKK).1;omega
        rw [e0,e1]
        show _ = mkI (K + 2)
        rw [show K + (2 : Int) = K + 1 + 1 by omega]
        rfl
      clear hy cu2 cf2 u2 HK1
      obtain ⟨u3,cu3⟩:=(show K1 g W y2 ∧ _ from HK2).1.cell (i * 5 + 3) ((show _ ∧ _ ∧ _ from HH).1 _ (by have:=(show _ ∧ _ from HKK).2;omega))
      have cf3 : y2.frozen? ⟨g,i * 5 + 3,none⟩ = false:=((show K1 g W y2 ∧ _ from HK2).1.fz _ (show _ ∧ _ ∧ _ from HH).2.2).trans ((show _ ∧ _ ∧ _ from HH).2.1 _)
      go_upto_region 11 with fail
      generalize hy : World.setCell y2 _ _ = y3
      have HK3 : Hid (K1 g W y3 ∧ CJ vI 5 g k (i * 5 + 3 + 1) y3):=by
        rw [← hy]
        refine (⟨(show K1 g W y2 ∧ _ from HK2).1.trans (K1.set1 _ _ _ _),(show _ ∧ CJ _ _ _ _ _ y2 from HK2).2.set cu3 ?_⟩ : _ ∧ _)
        have e0 : (i * 5 + 3) % 5 = 3:=by omega
        have e1 : k + ((i * 5 + 3 : Nat) : Int) = K + 3:=by have:=(show _ ∧ _ from HKK).1;omega
        rw [e0,e1]
        show _ = mkI (K + 3)
        rw [show K + (3 : Int) = K + 1 + 1 + 1 by omega]
        rfl
      clear hy cu3 cf3 u3 HK2
      obtain ⟨u4,cu4⟩:=(show K1 g W y3 ∧ _ from HK3).1.cell (i * 5 + 4) ((show _ ∧ _ ∧ _ from HH).1 _ (by have:=(show _ ∧ _ from HKK).2;omega))
      have cf4 : y3.frozen? ⟨g,i * 5 + 4,none⟩ = false:=((show K1 g W y3 ∧ _ from HK3).1.fz _ (show _ ∧ _ ∧ _ from HH).2.2).trans ((show _ ∧ _ ∧ _ from HH).2.1 _)
      go_upto_region 13 with fail
      generalize hy : World.setCell y3 _ _ = y4
      have HK4 : Hid (K1 g W y4 ∧ CJ vI 5 g k (i * 5 + 4 + 1) y4):=by
        rw [← hy]
        refine (⟨(show K1 g W y3 ∧ _ from HK3).1.trans (K1.set1 _ _ _ _),(show _ ∧ CJ _ _ _ _ _ y3 from HK3).2.set cu4 ?_⟩ : _ ∧ _)
        have e0 : (i * 5 + 4) % 5 = 4:=by omega
        have e1 : k + ((i * 5 + 4 : Nat) : Int) = K + 4:=by have:=(show _ ∧ _ from HKK).1;omega
        rw [e0,e1]
        show _ = mkI (K + 4)
        rw [show K + (4 : Int) = K + 1 + 1 + 1 + 1 by omega]
        rfl
      clear hy cu4 cf4 u4 HK3
      go_wp2_with fail
      go_roundw
      case rel=>exact ⟨i + 1,by omega,by go_num,by rw [(show _ ∧ _ from HKK).1];congr 1;omega,(⟨(show K1 g W y4 ∧ _ from HK4).1,by have:=(show _ ∧ CJ _ _ _ _ _ y4 from HK4).2;rw [show (i + 1) * 5 = i * 5 + 4 + 1 by omega];exact this⟩ : _ ∧ _)⟩
      case measure=>simp [intOf];omega
    · obtain rfl : i = n:=by omega
      have hI : ¬ (i : Int) < (i : Int):=by omega
      clear HH0
      go_wp2_with fail
      go_ret
      exact ⟨rfl,(show K1 g W wr ∧ _ from HK).1,(show _ ∧ CJ _ _ _ _ _ wr from HK).2⟩
theorem mrk_nams {W : World} {pa : Option Addr} {g n cp : Nat} (k : Int) (h1 : 1 ≤ k) (h2 : k ≤ 500000000) (hn : n ≤ 1048576) (hr : 0 < n → pa = some ⟨g, 0, none⟩ ∧ (∀ j, j < n * 4 → ∃ u, W.cell? ⟨g, j, none⟩ = some u) ∧ (∀ j, W.frozen? ⟨g, j, none⟩ = false) ∧ g < W.heap.size) :
    Calls Tryz.prog 70 #[.slice pa n cp,.int .i64 k] W fun e w'=>e = .returned (.int .i64 (k + 4 * (n : Int))) ∧ K1 g W w' ∧ CJ vM 4 g k (n * 4) w':=by
  have hst : ∀ (a : Addr) (n : Nat) (m : Mode) (w : World),(store a (.float .f64 n) m).run Tryz.prog w = stored Tryz.prog w a (.float .f64 n) m:=fun a n m w=>run_store _ _ _ _ _ rfl
  have HH0 : Hid (0 < n → pa = some ⟨g,0,none⟩ ∧ (∀ j,j < n * 4 → ∃ u,W.cell? ⟨g,j,none⟩ = some u) ∧ (∀ j,W.frozen? ⟨g,j,none⟩ = false) ∧ g < W.heap.size):=hr
  have hnI : (n : Int) ≤ 1048576:=by omega
  clear hr hn
  go_enter Tryz.func70,Tryz.ntmps70
  go_wp2_with fail
  go_loopw [1,5] (fun s1 s5 wr=>∃ i : Nat,i ≤ n ∧ s5 = .int .i64 (i : Int) ∧ s1 = .int .i64 (k + 4 * (i : Int)) ∧ Hid (K1 g W wr ∧ CJ vM 4 g k (i * 4) wr)) (fun _ s5 _=>n - (intOf s5).toNat)
  case atStart=>exact ⟨0,by omega,rfl,by simp,(⟨K1.refl _ _,fun j hj=>by omega⟩ : _ ∧ _)⟩
  case round =>
    obtain ⟨i,hi,rfl,rfl,HK⟩:=hrel
    by_cases hin : i < n
    · obtain ⟨rfl,hhh⟩:=(show 0 < n → _ from HH0) (by omega)
      have HH : Hid ((∀ j,j < n * 4 → ∃ u,W.cell? ⟨g,j,none⟩ = some u) ∧ (∀ j,W.frozen? ⟨g,j,none⟩ = false) ∧ g < W.heap.size):=hhh
      clear hhh
      have hI : (i : Int) < (n : Int):=by omega
      have hb : i * 4 + 4 ≤ n * 4:=by have:=Nat.mul_le_mul_right 4 (show i + 1 ≤ n from hin);rw [Nat.succ_mul] at this;exact this
      obtain ⟨K,hK⟩ : ∃ K : Int,K = k + 4 * (i : Int):=⟨_,rfl⟩
      have hK1 : 1 ≤ K:=by omega
      have hK2 : K ≤ 600000000:=by omega
      have HKK : Hid (K = k + 4 * (i : Int) ∧ i * 4 + 4 ≤ n * 4):=(⟨hK,hb⟩ : _ ∧ _)
      rw [← hK]
      clear hK hb
      obtain ⟨u0,cu0⟩:=(show K1 g W wr ∧ _ from HK).1.cell (i * 4 + 0) ((show _ ∧ _ ∧ _ from HH).1 _ (by have:=(show _ ∧ _ from HKK).2;omega))
      have cf0 : wr.frozen? ⟨g,i * 4 + 0,none⟩ = false:=((show K1 g W wr ∧ _ from HK).1.fz _ (show _ ∧ _ ∧ _ from HH).2.2).trans ((show _ ∧ _ ∧ _ from HH).2.1 _)
      rw [Nat.add_zero] at cu0 cf0
      have HT:=mark_text (K).toNat (by omega) (by omega) wr
      rw [Int.toNat_of_nonneg (by omega)] at HT
      obtain ⟨tx0,htx⟩ : ∃ tx,tx = (⟨#[109]⟩ ++ mtl (K).toNat ⟨#[]⟩ : ByteArray):=⟨_,rfl⟩
      rw [← htx] at HT
      have HTX : Hid (tx0 = (⟨#[109]⟩ ++ mtl (K).toNat ⟨#[]⟩ : ByteArray)):=htx
      have HCU : Hid (∀ W',Below wr.heap.size wr W' → W'.cell? ⟨g,i * 4,none⟩ = some u0 ∧ W'.frozen? ⟨g,i * 4,none⟩ = false ∧ K1 g W W' ∧ CJ vM 4 g k (i * 4) W'):=(fun W' b=>⟨(Kb.of_below b 0).cell cu0,((Kb.of_below b 0).frozen (Nat.zero_le _) (World.block_lt_of_cell? _ _ cu0)).trans cf0,(show K1 g W wr ∧ _ from HK).1.trans (K1.of_kb (Kb.of_below b 0)),(show _ ∧ CJ _ _ _ _ _ wr from HK).2.kb (Kb.of_below b 0)⟩ : ∀ W',_)
      clear cu0 cf0 htx
      go_upto_region 5 with (go_at_call 66;refine HT.mono ?_;rintro e z0 ⟨rfl,bz⟩;obtain ⟨cu0,cf0,kz,cz⟩:=(show ∀ W',Below wr.heap.size wr W' → _ from HCU) z0 bz)
      have HKZ : Hid (K1 g W z0 ∧ CJ vM 4 g k (i * 4) z0):=(⟨kz,cz⟩ : _ ∧ _)
      clear HT bz HCU kz cz HK
      generalize hy : World.setCell z0 _ _ = y0
      have HK0 : Hid (K1 g W y0 ∧ CJ vM 4 g k (i * 4 + 1) y0):=by
        rw [← hy]
        refine (⟨(show K1 g W z0 ∧ _ from HKZ).1.trans (K1.set1 _ _ _ _),(show _ ∧ CJ _ _ _ _ _ z0 from HKZ).2.set cu0 ?_⟩ : _ ∧ _)
        have e0 : (i * 4) % 4 = 0:=by omega
        have e1 : k + ((i * 4 : Nat) : Int) = K + 0:=by have:=(show _ ∧ _ from HKK).1;omega
        rw [e0,e1]
        rw [show tx0 = _ from HTX];show _ = mkS (K + 0)
        rw [show K + (0 : Int) = K by omega]
        rfl
      clear hy cu0 cf0 u0 HKZ HTX
      obtain ⟨u1,cu1⟩:=(show K1 g W y0 ∧ _ from HK0).1.cell (i * 4 + 1) ((show _ ∧ _ ∧ _ from HH).1 _ (by have:=(show _ ∧ _ from HKK).2;omega))
      have cf1 : y0.frozen? ⟨g,i * 4 + 1,none⟩ = false:=((show K1 g W y0 ∧ _ from HK0).1.fz _ (show _ ∧ _ ∧ _ from HH).2.2).trans ((show _ ∧ _ ∧ _ from HH).2.1 _)
      go_upto_region 7 with fail
      generalize hy : World.setCell y0 _ _ = y1
      have HK1 : Hid (K1 g W y1 ∧ CJ vM 4 g k (i * 4 + 1 + 1) y1):=by
        rw [← hy]
        refine (⟨(show K1 g W y0 ∧ _ from HK0).1.trans (K1.set1 _ _ _ _),(show _ ∧ CJ _ _ _ _ _ y0 from HK0).2.set cu1 ?_⟩ : _ ∧ _)
        have e0 : (i * 4 + 1) % 4 = 1:=by omega
        have e1 : k + ((i * 4 + 1 : Nat) : Int) = K + 1:=by have:=(show _ ∧ _ from HKK).1;omega
        rw [e0,e1]
        show _ = mkI (K + 1)
        rw [show K + (1 : Int) = K + 1 by omega]
        rfl
      clear hy cu1 cf1 u1 HK0
      obtain ⟨u2,cu2⟩:=(show K1 g W y1 ∧ _ from HK1).1.cell (i * 4 + 2) ((show _ ∧ _ ∧ _ from HH).1 _ (by have:=(show _ ∧ _ from HKK).2;omega))
      have cf2 : y1.frozen? ⟨g,i * 4 + 2,none⟩ = false:=((show K1 g W y1 ∧ _ from HK1).1.fz _ (show _ ∧ _ ∧ _ from HH).2.2).trans ((show _ ∧ _ ∧ _ from HH).2.1 _)
      go_upto_region 9 with fail
      generalize hy : World.setCell y1 _ _ = y2
      have HK2 : Hid (K1 g W y2 ∧ CJ vM 4 g k (i * 4 + 2 + 1) y2):=by
        rw [← hy]
        refine (⟨(show K1 g W y1 ∧ _ from HK1).1.trans (K1.set1 _ _ _ _),(show _ ∧ CJ _ _ _ _ _ y1 from HK1).2.set cu2 ?_⟩ : _ ∧ _)
        have e0 : (i * 4 + 2) % 4 = 2:=by omega
        have e1 : k + ((i * 4 + 2 : Nat) : Int) = K + 2:=by have:=(show _ ∧ _ from HKK).1;omega
        rw [e0,e1]
        show _ = mkI (K + 2)
        rw [show K + (2 : Int) = K + 1 + 1 by omega]
        rfl
      clear hy cu2 cf2 u2 HK1
      obtain ⟨u3,cu3⟩:=(show K1 g W y2 ∧ _ from HK2).1.cell (i * 4 + 3) ((show _ ∧ _ ∧ _ from HH).1 _ (by have:=(show _ ∧ _ from HKK).2;omega))
      have cf3 : y2.frozen? ⟨g,i * 4 + 3,none⟩ = false:=((show K1 g W y2 ∧ _ from HK2).1.fz _ (show _ ∧ _ ∧ _ from HH).2.2).trans ((show _ ∧ _ ∧ _ from HH).2.1 _)
      go_upto_region 11 with fail
      generalize hy : World.setCell y2 _ _ = y3
      have HK3 : Hid (K1 g W y3 ∧ CJ vM 4 g k (i * 4 + 3 + 1) y3):=by
        rw [← hy]
        refine (⟨(show K1 g W y2 ∧ _ from HK2).1.trans (K1.set1 _ _ _ _),(show _ ∧ CJ _ _ _ _ _ y2 from HK2).2.set cu3 ?_⟩ : _ ∧ _)
        have e0 : (i * 4 + 3) % 4 = 3:=by omega
        have e1 : k + ((i * 4 + 3 : Nat) : Int) = K + 3:=by have:=(show _ ∧ _ from HKK).1;omega
        rw [e0,e1]
        show _ = mkI (K + 3)
        rw [show K + (3 : Int) = K + 1 + 1 + 1 by omega]
        rfl
      clear hy cu3 cf3 u3 HK2
      go_wp2_with fail
      go_roundw
      case rel=>exact ⟨i + 1,by omega,by go_num,by rw [(show _ ∧ _ from HKK).1];congr 1;omega,(⟨(show K1 g W y3 ∧ _ from HK3).1,by have:=(show _ ∧ CJ _ _ _ _ _ y3 from HK3).2;rw [show (i + 1) * 4 = i * 4 + 3 + 1 by omega];exact this⟩ : _ ∧ _)⟩
      case measure=>simp [intOf];omega
    · obtain rfl : i = n:=by omega
      have hI : ¬ (i : Int) < (i : Int):=by omega
      clear HH0
      go_wp2_with fail
      go_ret
      exact ⟨rfl,(show K1 g W wr ∧ _ from HK).1,(show _ ∧ CJ _ _ _ _ _ wr from HK).2⟩
theorem mrk_vals {W : World} {pa : Option Addr} {g n cp : Nat} (k : Int) (h1 : 1 ≤ k) (h2 : k ≤ 500000000) (hn : n ≤ 1048576) (hr : 0 < n → pa = some ⟨g, 0, none⟩ ∧ (∀ j, j < n * 5 → ∃ u, W.cell? ⟨g, j, none⟩ = some u) ∧ (∀ j, W.frozen? ⟨g, j, none⟩ = false) ∧ g < W.heap.size) :
    Calls Tryz.prog 68 #[.slice pa n cp,.int .i64 k] W fun e w'=>e = .returned (.int .i64 (k + 5 * (n : Int))) ∧ K1 g W w' ∧ CJ vV 5 g k (n * 5) w':=by
  have hst : ∀ (a : Addr) (n : Nat) (m : Mode) (w : World),(store a (.float .f64 n) m).run Tryz.prog w = stored Tryz.prog w a (.float .f64 n) m:=fun a n m w=>run_store _ _ _ _ _ rfl
  have HH0 : Hid (0 < n → pa = some ⟨g,0,none⟩ ∧ (∀ j,j < n * 5 → ∃ u,W.cell? ⟨g,j,none⟩ = some u) ∧ (∀ j,W.frozen? ⟨g,j,none⟩ = false) ∧ g < W.heap.size):=hr
  have hnI : (n : Int) ≤ 1048576:=by omega
  clear hr hn
  go_enter Tryz.func68,Tryz.ntmps68
  go_wp2_with fail
  go_loopw [1,5] (fun s1 s5 wr=>∃ i : Nat,i ≤ n ∧ s5 = .int .i64 (i : Int) ∧ s1 = .int .i64 (k + 5 * (i : Int)) ∧ Hid (K1 g W wr ∧ CJ vV 5 g k (i * 5) wr)) (fun _ s5 _=>n - (intOf s5).toNat)
  case atStart=>exact ⟨0,by omega,rfl,by simp,(⟨K1.refl _ _,fun j hj=>by omega⟩ : _ ∧ _)⟩
  case round =>
    obtain ⟨i,hi,rfl,rfl,HK⟩:=hrel
    by_cases hin : i < n
    · obtain ⟨rfl,hhh⟩:=(show 0 < n → _ from HH0) (by omega)
      have HH : Hid ((∀ j,j < n * 5 → ∃ u,W.cell? ⟨g,j,none⟩ = some u) ∧ (∀ j,W.frozen? ⟨g,j,none⟩ = false) ∧ g < W.heap.size):=hhh
      clear hhh
      have hI : (i : Int) < (n : Int):=by omega
      have hb : i * 5 + 5 ≤ n * 5:=by have:=Nat.mul_le_mul_right 5 (show i + 1 ≤ n from hin);rw [Nat.succ_mul] at this;exact this
      obtain ⟨K,hK⟩ : ∃ K : Int,K = k + 5 * (i : Int):=⟨_,rfl⟩
      have hK1 : 1 ≤ K:=by omega
      have hK2 : K ≤ 600000000:=by omega
      have HKK : Hid (K = k + 5 * (i : Int) ∧ i * 5 + 5 ≤ n * 5):=(⟨hK,hb⟩ : _ ∧ _)
      rw [← hK]
      clear hK hb
      obtain ⟨u0,cu0⟩:=(show K1 g W wr ∧ _ from HK).1.cell (i * 5 + 0) ((show _ ∧ _ ∧ _ from HH).1 _ (by have:=(show _ ∧ _ from HKK).2;omega))
      have cf0 : wr.frozen? ⟨g,i * 5 + 0,none⟩ = false:=((show K1 g W wr ∧ _ from HK).1.fz _ (show _ ∧ _ ∧ _ from HH).2.2).trans ((show _ ∧ _ ∧ _ from HH).2.1 _)
      rw [Nat.add_zero] at cu0 cf0
      go_upto_region 5 with fail
      generalize hy : World.setCell wr _ _ = y0
      have HK0 : Hid (K1 g W y0 ∧ CJ vV 5 g k (i * 5 + 1) y0):=by
        rw [← hy]
        refine (⟨(show K1 g W wr ∧ _ from HK).1.trans (K1.set1 _ _ _ _),(show _ ∧ CJ _ _ _ _ _ wr from HK).2.set cu0 ?_⟩ : _ ∧ _)
        have e0 : (i * 5) % 5 = 0:=by omega
        have e1 : k + ((i * 5 : Nat) : Int) = K + 0:=by have:=(show _ ∧ _ from HKK).1;omega
        rw [e0,e1]
        show _ = mkI (K + 0)
        rw [show K + (0 : Int) = K by omega]
        rfl
      clear hy cu0 cf0 u0 HK
      obtain ⟨u1,cu1⟩:=(show K1 g W y0 ∧ _ from HK0).1.cell (i * 5 + 1) ((show _ ∧ _ ∧ _ from HH).1 _ (by have:=(show _ ∧ _ from HKK).2;omega))
      have cf1 : y0.frozen? ⟨g,i * 5 + 1,none⟩ = false:=((show K1 g W y0 ∧ _ from HK0).1.fz _ (show _ ∧ _ ∧ _ from HH).2.2).trans ((show _ ∧ _ ∧ _ from HH).2.1 _)
      go_upto_region 7 with fail
      generalize hy : World.setCell y0 _ _ = y1
      have HK1 : Hid (K1 g W y1 ∧ CJ vV 5 g k (i * 5 + 1 + 1) y1):=by
        rw [← hy]
        refine (⟨(show K1 g W y0 ∧ _ from HK0).1.trans (K1.set1 _ _ _ _),(show _ ∧ CJ _ _ _ _ _ y0 from HK0).2.set cu1 ?_⟩ : _ ∧ _)
        have e0 : (i * 5 + 1) % 5 = 1:=by omega
        have e1 : k + ((i * 5 + 1 : Nat) : Int) = K + 1:=by have:=(show _ ∧ _ from HKK).1;omega
        rw [e0,e1]
        show _ = mkI (K + 1)
        rw [show K + (1 : Int) = K + 1 by omega]
        rfl
      clear hy cu1 cf1 u1 HK0
      obtain ⟨u2,cu2⟩:=(show K1 g W y1 ∧ _ from HK1).1.cell (i * 5 + 2) ((show _ ∧ _ ∧ _ from HH).1 _ (by have:=(show _ ∧ _ from HKK).2;omega))
      have cf2 : y1.frozen? ⟨g,i * 5 + 2,none⟩ = false:=((show K1 g W y1 ∧ _ from HK1).1.fz _ (show _ ∧ _ ∧ _ from HH).2.2).trans ((show _ ∧ _ ∧ _ from HH).2.1 _)
      go_upto_region 9 with fail
      generalize hy : World.setCell y1 _ _ = y2
      have HK2 : Hid (K1 g W y2 ∧ CJ vV 5 g k (i * 5 + 2 + 1) y2):=by
        rw [← hy]
        refine (⟨(show K1 g W y1 ∧ _ from HK1).1.trans (K1.set1 _ _ _ _),(show _ ∧ CJ _ _ _ _ _ y1 from HK1).2.set cu2 ?_⟩ : _ ∧ _)
        have e0 : (i * 5 + 2) % 5 = 2:=by omega
        have e1 : k + ((i * 5 + 2 : Nat) : Int) = K + 2:=by have:=(show _ ∧ _ from HKK).1;omega
        rw [e0,e1]
        show _ = mkF (K + 2)
        rw [show K + (2 : Int) = K + 1 + 1 by omega]
        rfl
      clear hy cu2 cf2 u2 HK1
      obtain ⟨u3,cu3⟩:=(show K1 g W y2 ∧ _ from HK2).1.cell (i * 5 + 3) ((show _ ∧ _ ∧ _ from HH).1 _ (by have:=(show _ ∧ _ from HKK).2;omega))
      have cf3 : y2.frozen? ⟨g,i * 5 + 3,none⟩ = false:=((show K1 g W y2 ∧ _ from HK2).1.fz _ (show _ ∧ _ ∧ _ from HH).2.2).trans ((show _ ∧ _ ∧ _ from HH).2.1 _)
      have HT:=mark_text ((K + 1 + 1 + 1)).toNat (by omega) (by omega) y2
      rw [Int.toNat_of_nonneg (by omega)] at HT
      obtain ⟨tx3,htx⟩ : ∃ tx,tx = (⟨#[109]⟩ ++ mtl ((K + 1 + 1 + 1)).toNat ⟨#[]⟩ : ByteArray):=⟨_,rfl⟩
      rw [← htx] at HT
      have HTX : Hid (tx3 = (⟨#[109]⟩ ++ mtl ((K + 1 + 1 + 1)).toNat ⟨#[]⟩ : ByteArray)):=htx
      have HCU : Hid (∀ W',Below y2.heap.size y2 W' → W'.cell? ⟨g,i * 5 + 3,none⟩ = some u3 ∧ W'.frozen? ⟨g,i * 5 + 3,none⟩ = false ∧ K1 g W W' ∧ CJ vV 5 g k (i * 5 + 3) W'):=(fun W' b=>⟨(Kb.of_below b 0).cell cu3,((Kb.of_below b 0).frozen (Nat.zero_le _) (World.block_lt_of_cell? _ _ cu3)).trans cf3,(show K1 g W y2 ∧ _ from HK2).1.trans (K1.of_kb (Kb.of_below b 0)),(show _ ∧ CJ _ _ _ _ _ y2 from HK2).2.kb (Kb.of_below b 0)⟩ : ∀ W',_)
      clear cu3 cf3 htx
      go_upto_region 11 with (go_at_call 66;refine HT.mono ?_;rintro e z3 ⟨rfl,bz⟩;obtain ⟨cu3,cf3,kz,cz⟩:=(show ∀ W',Below y2.heap.size y2 W' → _ from HCU) z3 bz)
      have HKZ : Hid (K1 g W z3 ∧ CJ vV 5 g k (i * 5 + 3) z3):=(⟨kz,cz⟩ : _ ∧ _)
      clear HT bz HCU kz cz HK2
      generalize hy : World.setCell z3 _ _ = y3
      have HK3 : Hid (K1 g W y3 ∧ CJ vV 5 g k (i * 5 + 3 + 1) y3):=by
        rw [← hy]
        refine (⟨(show K1 g W z3 ∧ _ from HKZ).1.trans (K1.set1 _ _ _ _),(show _ ∧ CJ _ _ _ _ _ z3 from HKZ).2.set cu3 ?_⟩ : _ ∧ _)
        have e0 : (i * 5 + 3) % 5 = 3:=by omega
        have e1 : k + ((i * 5 + 3 : Nat) : Int) = K + 3:=by have:=(show _ ∧ _ from HKK).1;omega
        rw [e0,e1]
        rw [show tx3 = _ from HTX];show _ = mkS (K + 3)
        rw [show K + (3 : Int) = K + 1 + 1 + 1 by omega]
        rfl
      clear hy cu3 cf3 u3 HKZ HTX
      obtain ⟨u4,cu4⟩:=(show K1 g W y3 ∧ _ from HK3).1.cell (i * 5 + 4) ((show _ ∧ _ ∧ _ from HH).1 _ (by have:=(show _ ∧ _ from HKK).2;omega))
      have cf4 : y3.frozen? ⟨g,i * 5 + 4,none⟩ = false:=((show K1 g W y3 ∧ _ from HK3).1.fz _ (show _ ∧ _ ∧ _ from HH).2.2).trans ((show _ ∧ _ ∧ _ from HH).2.1 _)
      go_upto_region 13 with fail
      generalize hy : World.setCell y3 _ _ = y4
      have HK4 : Hid (K1 g W y4 ∧ CJ vV 5 g k (i * 5 + 4 + 1) y4):=by
        rw [← hy]
        refine (⟨(show K1 g W y3 ∧ _ from HK3).1.trans (K1.set1 _ _ _ _),(show _ ∧ CJ _ _ _ _ _ y3 from HK3).2.set cu4 ?_⟩ : _ ∧ _)
        have e0 : (i * 5 + 4) % 5 = 4:=by omega
        have e1 : k + ((i * 5 + 4 : Nat) : Int) = K + 4:=by have:=(show _ ∧ _ from HKK).1;omega
        rw [e0,e1]
        show _ = mkI (K + 4)
        rw [show K + (4 : Int) = K + 1 + 1 + 1 + 1 by omega]
        rfl
      clear hy cu4 cf4 u4 HK3
      go_wp2_with fail
      go_roundw
      case rel=>exact ⟨i + 1,by omega,by go_num,by rw [(show _ ∧ _ from HKK).1];congr 1;omega,(⟨(show K1 g W y4 ∧ _ from HK4).1,by have:=(show _ ∧ CJ _ _ _ _ _ y4 from HK4).2;rw [show (i + 1) * 5 = i * 5 + 4 + 1 by omega];exact this⟩ : _ ∧ _)⟩
      case measure=>simp [intOf];omega
    · obtain rfl : i = n:=by omega
      have hI : ¬ (i : Int) < (i : Int):=by omega
      clear HH0
      go_wp2_with fail
      go_ret
      exact ⟨rfl,(show K1 g W wr ∧ _ from HK).1,(show _ ∧ CJ _ _ _ _ _ wr from HK).2⟩
end Go.Proofs.YtnmeemjoodoalaaGreatDoor.Fo
