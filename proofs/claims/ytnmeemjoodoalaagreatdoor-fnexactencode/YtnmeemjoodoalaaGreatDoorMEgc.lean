import Derived.Test.YtnmeemjoodoalaaGreatDoorMEfd
set_option maxHeartbeats 8000000
namespace Go.Proofs.YtnmeemjoodoalaaGreatDoor.Fo
open Go.ChangeShapes Go.WideShapes Go.ChangeAt Go.RowKit
set_option linter.unusedVariables false
set_option maxRecDepth 100000
theorem mark_nams {W : World} {g n : Nat} (k : Int) (h1 : 1 ≤ k) (h2 : k ≤ 500000000) (hn : n ≤ 1048576) (hc : ∀ j, j < n * 4 → ∃ u, W.cell? ⟨g, j, none⟩ = some u) (hf : ∀ j, W.frozen? ⟨g, j, none⟩ = false) (hg : g < W.heap.size) :
    Calls Tryz.prog 70 #[.slice (some ⟨g,0,none⟩) n n,.int .i64 k] W fun e w'=>e = .returned (.int .i64 (k + 4 * (n : Int))) ∧ K1 g W w':=by
  have hst : ∀ (a : Addr) (n : Nat) (m : Mode) (w : World),(store a (.float .f64 n) m).run Tryz.prog w = stored Tryz.prog w a (.float .f64 n) m:=fun a n m w=>run_store _ _ _ _ _ rfl
  have HH : Hid ((∀ j,j < n * 4 → ∃ u,W.cell? ⟨g,j,none⟩ = some u) ∧ (∀ j,W.frozen? ⟨g,j,none⟩ = false) ∧ g < W.heap.size):=(⟨hc,hf,hg⟩ : _ ∧ _)
  have hnI : (n : Int) ≤ 1048576:=by omega
  clear hc hf hg hn
  go_enter Tryz.func70,Tryz.ntmps70
  go_wp2_with fail
  go_loopw [1,5] (fun s1 s5 wr=>∃ i : Nat,i ≤ n ∧ s5 = .int .i64 (i : Int) ∧ s1 = .int .i64 (k + 4 * (i : Int)) ∧ Hid (K1 g W wr)) (fun _ s5 _=>n - (intOf s5).toNat)
  case atStart=>exact ⟨0,by omega,rfl,by simp,K1.refl _ _⟩
  case round =>
    obtain ⟨i,hi,rfl,rfl,HK⟩:=hrel
    obtain ⟨hc,hf,hg⟩:=(show _ ∧ _ ∧ _ from HH)
    by_cases hin : i < n
    · have hI : (i : Int) < (n : Int):=by omega
      have hb : i * 4 + 4 ≤ n * 4:=by have:=Nat.mul_le_mul_right 4 (show i + 1 ≤ n from hin);rw [Nat.succ_mul] at this;exact this
      obtain ⟨K,hK⟩ : ∃ K : Int,K = k + 4 * (i : Int):=⟨_,rfl⟩
      have hK1 : 1 ≤ K:=by omega
      have hK2 : K ≤ 600000000:=by omega
      have HKK : Hid (K = k + 4 * (i : Int) ∧ i * 4 + 4 ≤ n * 4):=(⟨hK,hb⟩ : _ ∧ _)
      rw [← hK]
      clear hc hf hg hK hb
      obtain ⟨u0,cu0⟩:=(show K1 g W wr from HK).cell (i * 4 + 0) ((show _ ∧ _ ∧ _ from HH).1 _ (by have:=(show _ ∧ _ from HKK).2;omega))
      have cf0 : wr.frozen? ⟨g,i * 4 + 0,none⟩ = false:=((show K1 g W wr from HK).fz _ (show _ ∧ _ ∧ _ from HH).2.2).trans ((show _ ∧ _ ∧ _ from HH).2.1 _)
      rw [Nat.add_zero] at cu0 cf0
      have HT:=mark_text (K).toNat (by omega) (by omega) wr
      rw [Int.toNat_of_nonneg (by omega)] at HT
      generalize (⟨#[109]⟩ ++ mtl (K).toNat ⟨#[]⟩ : ByteArray) = tx0 at HT
      have HCU : Hid (∀ W',Below wr.heap.size wr W' → W'.cell? ⟨g,i * 4,none⟩ = some u0 ∧ W'.frozen? ⟨g,i * 4,none⟩ = false ∧ K1 g W W'):=(fun W' b=>⟨(Kb.of_below b 0).cell cu0,((Kb.of_below b 0).frozen (Nat.zero_le _) (World.block_lt_of_cell? _ _ cu0)).trans cf0,(show K1 g W wr from HK).trans (K1.of_kb (Kb.of_below b 0))⟩ : ∀ W',_)
      clear cu0 cf0
      go_upto_region 5 with (go_at_call 66;refine HT.mono ?_;rintro e z0 ⟨rfl,bz⟩;obtain ⟨cu0,cf0,kz⟩:=(show ∀ W',Below wr.heap.size wr W' → _ from HCU) z0 bz)
      have HKZ : Hid (K1 g W z0):=kz
      clear HT bz HCU kz HK
      generalize hy : World.setCell z0 _ _ = y0
      have HK0 : Hid (K1 g W y0):=by rw [← hy];exact (show K1 g W z0 from HKZ).trans (K1.set1 _ _ _ _)
      clear hy cu0 cf0 u0 HKZ
      obtain ⟨u1,cu1⟩:=(show K1 g W y0 from HK0).cell (i * 4 + 1) ((show _ ∧ _ ∧ _ from HH).1 _ (by have:=(show _ ∧ _ from HKK).2;omega))
      have cf1 : y0.frozen? ⟨g,i * 4 + 1,none⟩ = false:=((show K1 g W y0 from HK0).fz _ (show _ ∧ _ ∧ _ from HH).2.2).trans ((show _ ∧ _ ∧ _ from HH).2.1 _)
      go_upto_region 7 with fail
      generalize hy : World.setCell y0 _ _ = y1
      have HK1 : Hid (K1 g W y1):=by rw [← hy];exact (show K1 g W y0 from HK0).trans (K1.set1 _ _ _ _)
      clear hy cu1 cf1 u1 HK0
      obtain ⟨u2,cu2⟩:=(show K1 g W y1 from HK1).cell (i * 4 + 2) ((show _ ∧ _ ∧ _ from HH).1 _ (by have:=(show _ ∧ _ from HKK).2;omega))
      have cf2 : y1.frozen? ⟨g,i * 4 + 2,none⟩ = false:=((show K1 g W y1 from HK1).fz _ (show _ ∧ _ ∧ _ from HH).2.2).trans ((show _ ∧ _ ∧ _ from HH).2.1 _)
      go_upto_region 9 with fail
      generalize hy : World.setCell y1 _ _ = y2
      have HK2 : Hid (K1 g W y2):=by rw [← hy];exact (show K1 g W y1 from HK1).trans (K1.set1 _ _ _ _)
      clear hy cu2 cf2 u2 HK1
      obtain ⟨u3,cu3⟩:=(show K1 g W y2 from HK2).cell (i * 4 + 3) ((show _ ∧ _ ∧ _ from HH).1 _ (by have:=(show _ ∧ _ from HKK).2;omega))
      have cf3 : y2.frozen? ⟨g,i * 4 + 3,none⟩ = false:=((show K1 g W y2 from HK2).fz _ (show _ ∧ _ ∧ _ from HH).2.2).trans ((show _ ∧ _ ∧ _ from HH).2.1 _)
      go_upto_region 11 with fail
      generalize hy : World.setCell y2 _ _ = y3
      have HK3 : Hid (K1 g W y3):=by rw [← hy];exact (show K1 g W y2 from HK2).trans (K1.set1 _ _ _ _)
      clear hy cu3 cf3 u3 HK2
      go_wp2_with fail
      go_roundw
      case rel=>exact ⟨i + 1,by omega,by go_num,by rw [(show _ ∧ _ from HKK).1];congr 1;omega,HK3⟩
      case measure=>simp [intOf];omega
    · obtain rfl : i = n:=by omega
      have hI : ¬ (i : Int) < (i : Int):=by omega
      clear hc hf hg HH
      go_wp2_with fail
      go_ret
      exact ⟨rfl,HK⟩
theorem mark_vals {W : World} {g n : Nat} (k : Int) (h1 : 1 ≤ k) (h2 : k ≤ 500000000) (hn : n ≤ 1048576) (hc : ∀ j, j < n * 5 → ∃ u, W.cell? ⟨g, j, none⟩ = some u) (hf : ∀ j, W.frozen? ⟨g, j, none⟩ = false) (hg : g < W.heap.size) :
    Calls Tryz.prog 68 #[.slice (some ⟨g,0,none⟩) n n,.int .i64 k] W fun e w'=>e = .returned (.int .i64 (k + 5 * (n : Int))) ∧ K1 g W w':=by
  have hst : ∀ (a : Addr) (n : Nat) (m : Mode) (w : World),(store a (.float .f64 n) m).run Tryz.prog w = stored Tryz.prog w a (.float .f64 n) m:=fun a n m w=>run_store _ _ _ _ _ rfl
  have HH : Hid ((∀ j,j < n * 5 → ∃ u,W.cell? ⟨g,j,none⟩ = some u) ∧ (∀ j,W.frozen? ⟨g,j,none⟩ = false) ∧ g < W.heap.size):=(⟨hc,hf,hg⟩ : _ ∧ _)
  have hnI : (n : Int) ≤ 1048576:=by omega
  clear hc hf hg hn
  go_enter Tryz.func68,Tryz.ntmps68
  go_wp2_with fail
  go_loopw [1,5] (fun s1 s5 wr=>∃ i : Nat,i ≤ n ∧ s5 = .int .i64 (i : Int) ∧ s1 = .int .i64 (k + 5 * (i : Int)) ∧ Hid (K1 g W wr)) (fun _ s5 _=>n - (intOf s5).toNat)
  case atStart=>exact ⟨0,by omega,rfl,by simp,K1.refl _ _⟩
  case round =>
    obtain ⟨i,hi,rfl,rfl,HK⟩:=hrel
    obtain ⟨hc,hf,hg⟩:=(show _ ∧ _ ∧ _ from HH)
    by_cases hin : i < n
    · have hI : (i : Int) < (n : Int):=by omega
      have hb : i * 5 + 5 ≤ n * 5:=by have:=Nat.mul_le_mul_right 5 (show i + 1 ≤ n from hin);rw [Nat.succ_mul] at this;exact this
      obtain ⟨K,hK⟩ : ∃ K : Int,K = k + 5 * (i : Int):=⟨_,rfl⟩
      have hK1 : 1 ≤ K:=by omega
      have hK2 : K ≤ 600000000:=by omega
      have HKK : Hid (K = k + 5 * (i : Int) ∧ i * 5 + 5 ≤ n * 5):=(⟨hK,hb⟩ : _ ∧ _)
      rw [← hK]
      clear hc hf hg hK hb
      obtain ⟨u0,cu0⟩:=(show K1 g W wr from HK).cell (i * 5 + 0) ((show _ ∧ _ ∧ _ from HH).1 _ (by have:=(show _ ∧ _ from HKK).2;omega))
      have cf0 : wr.frozen? ⟨g,i * 5 + 0,none⟩ = false:=((show K1 g W wr from HK).fz _ (show _ ∧ _ ∧ _ from HH).2.2).trans ((show _ ∧ _ ∧ _ from HH).2.1 _)
      rw [Nat.add_zero] at cu0 cf0
      go_upto_region 5 with fail
      generalize hy : World.setCell wr _ _ = y0
      have HK0 : Hid (K1 g W y0):=by rw [← hy];exact (show K1 g W wr from HK).trans (K1.set1 _ _ _ _)
      clear hy cu0 cf0 u0 HK
      obtain ⟨u1,cu1⟩:=(show K1 g W y0 from HK0).cell (i * 5 + 1) ((show _ ∧ _ ∧ _ from HH).1 _ (by have:=(show _ ∧ _ from HKK).2;omega))
      have cf1 : y0.frozen? ⟨g,i * 5 + 1,none⟩ = false:=((show K1 g W y0 from HK0).fz _ (show _ ∧ _ ∧ _ from HH).2.2).trans ((show _ ∧ _ ∧ _ from HH).2.1 _)
      go_upto_region 7 with fail
      generalize hy : World.setCell y0 _ _ = y1
      have HK1 : Hid (K1 g W y1):=by rw [← hy];exact (show K1 g W y0 from HK0).trans (K1.set1 _ _ _ _)
      clear hy cu1 cf1 u1 HK0
      obtain ⟨u2,cu2⟩:=(show K1 g W y1 from HK1).cell (i * 5 + 2) ((show _ ∧ _ ∧ _ from HH).1 _ (by have:=(show _ ∧ _ from HKK).2;omega))
      have cf2 : y1.frozen? ⟨g,i * 5 + 2,none⟩ = false:=((show K1 g W y1 from HK1).fz _ (show _ ∧ _ ∧ _ from HH).2.2).trans ((show _ ∧ _ ∧ _ from HH).2.1 _)
      go_upto_region 9 with fail
      generalize hy : World.setCell y1 _ _ = y2
      have HK2 : Hid (K1 g W y2):=by rw [← hy];exact (show K1 g W y1 from HK1).trans (K1.set1 _ _ _ _)
      clear hy cu2 cf2 u2 HK1
      obtain ⟨u3,cu3⟩:=(show K1 g W y2 from HK2).cell (i * 5 + 3) ((show _ ∧ _ ∧ _ from HH).1 _ (by have:=(show _ ∧ _ from HKK).2;omega))
      have cf3 : y2.frozen? ⟨g,i * 5 + 3,none⟩ = false:=((show K1 g W y2 from HK2).fz _ (show _ ∧ _ ∧ _ from HH).2.2).trans ((show _ ∧ _ ∧ _ from HH).2.1 _)
      have HT:=mark_text ((K + 1 + 1 + 1)).toNat (by omega) (by omega) y2
      rw [Int.toNat_of_nonneg (by omega)] at HT
      generalize (⟨#[109]⟩ ++ mtl ((K + 1 + 1 + 1)).toNat ⟨#[]⟩ : ByteArray) = tx3 at HT
      have HCU : Hid (∀ W',Below y2.heap.size y2 W' → W'.cell? ⟨g,i * 5 + 3,none⟩ = some u3 ∧ W'.frozen? ⟨g,i * 5 + 3,none⟩ = false ∧ K1 g W W'):=(fun W' b=>⟨(Kb.of_below b 0).cell cu3,((Kb.of_below b 0).frozen (Nat.zero_le _) (World.block_lt_of_cell? _ _ cu3)).trans cf3,(show K1 g W y2 from HK2).trans (K1.of_kb (Kb.of_below b 0))⟩ : ∀ W',_)
      clear cu3 cf3
      go_upto_region 11 with (go_at_call 66;refine HT.mono ?_;rintro e z3 ⟨rfl,bz⟩;obtain ⟨cu3,cf3,kz⟩:=(show ∀ W',Below y2.heap.size y2 W' → _ from HCU) z3 bz)
      have HKZ : Hid (K1 g W z3):=kz
      clear HT bz HCU kz HK2
      generalize hy : World.setCell z3 _ _ = y3
      have HK3 : Hid (K1 g W y3):=by rw [← hy];exact (show K1 g W z3 from HKZ).trans (K1.set1 _ _ _ _)
      clear hy cu3 cf3 u3 HKZ
      obtain ⟨u4,cu4⟩:=(show K1 g W y3 from HK3).cell (i * 5 + 4) ((show _ ∧ _ ∧ _ from HH).1 _ (by have:=(show _ ∧ _ from HKK).2;omega))
      have cf4 : y3.frozen? ⟨g,i * 5 + 4,none⟩ = false:=((show K1 g W y3 from HK3).fz _ (show _ ∧ _ ∧ _ from HH).2.2).trans ((show _ ∧ _ ∧ _ from HH).2.1 _)
      go_upto_region 13 with fail
      generalize hy : World.setCell y3 _ _ = y4
      have HK4 : Hid (K1 g W y4):=by rw [← hy];exact (show K1 g W y3 from HK3).trans (K1.set1 _ _ _ _)
      clear hy cu4 cf4 u4 HK3
      go_wp2_with fail
      go_roundw
      case rel=>exact ⟨i + 1,by omega,by go_num,by rw [(show _ ∧ _ from HKK).1];congr 1;omega,HK4⟩
      case measure=>simp [intOf];omega
    · obtain rfl : i = n:=by omega
      have hI : ¬ (i : Int) < (i : Int):=by omega
      clear hc hf hg HH
      go_wp2_with fail
      go_ret
      exact ⟨rfl,HK⟩
def Inn (W : World) (g E gx m : Nat) : Prop:=g < gx ∧ gx < E ∧ (∀ j,j < m → ∃ u,W.cell? ⟨gx,j,none⟩ = some u) ∧ ∀ j,W.frozen? ⟨gx,j,none⟩ = false
structure Mst (g E n : Nat) (F : Nat → Pd) (W : World) : Prop where
  gE : g < E
  Es : E ≤ W.heap.size
  fz : ∀ j,W.frozen? ⟨g,j,none⟩ = false
  hd : ∀ i,i < n → ∀ t,t < 5 → ∃ u,W.cell? ⟨g,i * 9 + t,none⟩ = some u
  rw : ∀ i,i < n → ∃ gu gc gn gm,(W.cell? ⟨g,i * 9 + 5,none⟩ = some (.slice (some ⟨gu,0,none⟩) (F i).u (F i).u) ∧ W.cell? ⟨g,i * 9 + 6,none⟩ = some (.slice (some ⟨gc,0,none⟩) (F i).c (F i).c) ∧ W.cell? ⟨g,i * 9 + 7,none⟩ = some (.slice (some ⟨gn,0,none⟩) (F i).n (F i).n) ∧ W.cell? ⟨g,i * 9 + 8,none⟩ = some (.slice (some ⟨gm,0,none⟩) (F i).d (F i).d)) ∧ Inn W g E gu ((F i).u * 2) ∧ Inn W g E gc ((F i).c * 5) ∧ Inn W g E gn ((F i).n * 5) ∧ Inn W g E gm ((F i).d * 4)
theorem Inn.k1 {W W' : World} {g E gx gy m : Nat} (h : Inn W g E gy m) (hE : E ≤ W.heap.size) (k : K1 gx W W') : Inn W' g E gy m:=by
  obtain ⟨h1,h2,h3,h4⟩:=h
  by_cases e : gy = gx
  · subst e
    exact ⟨h1,h2,fun j hj=>k.cell j (h3 j hj),fun j=>(k.fz j (by omega)).trans (h4 j)⟩
  · have hb:=k.block gy (by omega) e
    exact ⟨h1,h2,fun j hj=>by rw [World.cell?_of_block (w:=W) hb];exact h3 j hj,fun j=>(World.frozen?_of_block hb).trans (h4 j)⟩
theorem Mst.k1 {W W' : World} {g E gx n : Nat} {F : Nat → Pd} (h : Mst g E n F W) (hx : gx ≠ g) (k : K1 gx W W') : Mst g E n F W':=by
  have hb:=k.block g (by have:=h.gE;have:=h.Es;omega) (by omega)
  have hc : ∀ j,W'.cell? ⟨g,j,none⟩ = W.cell? ⟨g,j,none⟩:=fun j=>World.cell?_of_block hb
  refine ⟨h.gE,Nat.le_trans h.Es k.size,fun j=>(World.frozen?_of_block hb).trans (h.fz j),fun i hi t ht=>by rw [hc];exact h.hd i hi t ht,fun i hi=>?_⟩
  obtain ⟨gu,gc,gn,gm,⟨c1,c2,c3,c4⟩,r1,r2,r3,r4⟩:=h.rw i hi
  exact ⟨gu,gc,gn,gm,⟨by rw [hc];exact c1,by rw [hc];exact c2,by rw [hc];exact c3,by rw [hc];exact c4⟩,r1.k1 h.Es k,r2.k1 h.Es k,r3.k1 h.Es k,r4.k1 h.Es k⟩
theorem Mst.kb {W W' : World} {g E n : Nat} {F : Nat → Pd} (h : Mst g E n F W) (k : Kb 0 W W') : Mst g E n F W':=h.k1 (gx:=g + 1) (by omega) (K1.of_kb k)
theorem Mst.set {W : World} {g E n : Nat} {F : Nat → Pd} (h : Mst g E n F W) (i t : Nat) (ht : t < 5) (v : Value) : Mst g E n F (W.setCell ⟨g,i * 9 + t,none⟩ v):=by
  have k:=K1.set1 g W (i * 9 + t) v
  have hE:=h.Es
  have hg:=h.gE
  have hc : ∀ a s,5 ≤ s → s < 9 → (W.setCell ⟨g,i * 9 + t,none⟩ v).cell? ⟨g,a * 9 + s,none⟩ = W.cell? ⟨g,a * 9 + s,none⟩:=fun a s h5 h9=>set_ne _ _ _ _ _ (by omega)
  refine ⟨hg,Nat.le_trans hE k.size,fun j=>(k.fz j (by omega)).trans (h.fz j),fun a ha s hs=>k.cell _ (h.hd a ha s hs),fun a ha=>?_⟩
  obtain ⟨gu,gc,gn,gm,⟨c1,c2,c3,c4⟩,r1,r2,r3,r4⟩:=h.rw a ha
  exact ⟨gu,gc,gn,gm,⟨(hc a 5 (by omega) (by omega)).trans c1,(hc a 6 (by omega) (by omega)).trans c2,(hc a 7 (by omega) (by omega)).trans c3,(hc a 8 (by omega) (by omega)).trans c4⟩,r1.k1 hE k,r2.k1 hE k,r3.k1 hE k,r4.k1 hE k⟩
structure KE (B E : Nat) (W w' : World) : Prop where
  os : w'.os = W.os
  output : w'.output = W.output
  size : W.heap.size ≤ w'.heap.size
  block : ∀ b,b < W.heap.size → b < B ∨ E ≤ b → w'.heap[b]? = W.heap[b]?
theorem KE.refl (B E : Nat) (W : World) : KE B E W W:=⟨rfl,rfl,Nat.le_refl _,fun _ _ _=>rfl⟩
theorem KE.k1 {B E g : Nat} {W a b : World} (h : KE B E W a) (hg : B ≤ g ∧ g < E) (k : K1 g a b) : KE B E W b :=
  ⟨k.os.trans h.os,k.output.trans h.output,Nat.le_trans h.size k.size,fun i hi hb=>(k.block i (Nat.lt_of_lt_of_le hi h.size) (by omega)).trans (h.block i hi hb)⟩
theorem mst_of {B n : Nat} {W : World} {v : Value} {F : Nat → Pd} (h : RowPF B W v n F) : ∃ g,v = .slice (some ⟨g,0,none⟩) n n ∧ B ≤ g ∧ Mst g W.heap.size n F W:=by
  obtain ⟨g,h1,h2,h3,h4,h5⟩:=h
  have ex : ∀ {m c : Nat} {X : Nat → Nat → Option Value} {gx : Nat},0 < c → (∀ i,i < m → ∀ t,t < c → ∃ u,W.cell? ⟨gx,i * c + t,none⟩ = some u) → ∀ j,j < m * c → ∃ u,W.cell? ⟨gx,j,none⟩ = some u:=by
    intro m c X gx hc hh j hj
    have:=hh (j / c) (Nat.div_lt_of_lt_mul (by rw [Nat.mul_comm];exact hj)) (j % c) (Nat.mod_lt _ hc)
    rw [Nat.mul_comm,Nat.div_add_mod] at this
    exact this
  refine ⟨g,h1,h2,h3,Nat.le_refl _,h4,fun i hi t ht=>?_,fun i hi=>?_⟩
  · obtain ⟨vu,vc,vn,vd,⟨d0,d1,d2,d3,d4,d5,d6,d7,d8⟩,_⟩:=h5 i hi
    rcases (by omega : t = 0 ∨ t = 1 ∨ t = 2 ∨ t = 3 ∨ t = 4) with rfl | rfl | rfl | rfl | rfl
    · exact ⟨_,d0⟩
    · exact ⟨_,d1⟩
    · exact ⟨_,d2⟩
    · exact ⟨_,d3⟩
    · exact ⟨_,d4⟩
  · obtain ⟨vu,vc,vn,vd,⟨d0,d1,d2,d3,d4,d5,d6,d7,d8⟩,⟨pu,cu,rfl,ru,gu,rfl,rfl,a1,a2,a3⟩,⟨pc,cc,rfl,rc,gc,rfl,rfl,b1,b2,b3⟩,⟨pn,cn,rfl,rn,gn,rfl,rfl,e1,e2,e3⟩,⟨pm,cm,rfl,rm,gm,rfl,rfl,f1,f2,f3⟩⟩:=h5 i hi
    refine ⟨gu,gc,gn,gm,⟨d5,d6,d7,d8⟩,⟨by omega,a2,?_,a3⟩,⟨by omega,b2,?_,b3⟩,⟨by omega,e2,?_,e3⟩,⟨by omega,f2,?_,f3⟩⟩
    · refine ex (X:=fun _ _=>none) (by decide) (fun j hj t ht=>?_)
      obtain ⟨pa',ca',e1',hr2⟩:=ru
      obtain ⟨rfl,-,rfl⟩:=(Value.slice.injEq _ _ _ _ _ _).mp e1'
      obtain ⟨b,hb,hcb,-,hrb⟩:=hr2 (by omega)
      obtain rfl:=Option.some.inj hb
      obtain ⟨k0,k1⟩:=hrb j hj
      rw [addr0] at k0 k1
      rcases (by omega : t = 0 ∨ t = 1) with rfl | rfl
      · exact ⟨_,k0⟩
      · exact ⟨_,k1⟩
    · refine ex (X:=fun _ _=>none) (by decide) (fun j hj t ht=>?_)
      obtain ⟨pa',ca',e1',hr2⟩:=rc
      obtain ⟨rfl,-,rfl⟩:=(Value.slice.injEq _ _ _ _ _ _).mp e1'
      obtain ⟨b,hb,hcb,-,hrb⟩:=hr2 (by omega)
      obtain rfl:=Option.some.inj hb
      obtain ⟨k0,k1,k2,k3,k4⟩:=hrb j hj
      rw [addr0] at k0 k1 k2 k3 k4
      rcases (by omega : t = 0 ∨ t = 1 ∨ t = 2 ∨ t = 3 ∨ t = 4) with rfl | rfl | rfl | rfl | rfl
      · exact ⟨_,k0⟩
      · exact ⟨_,k1⟩
      · exact ⟨_,k2⟩
      · exact ⟨_,k3⟩
      · exact ⟨_,k4⟩
    · refine ex (X:=fun _ _=>none) (by decide) (fun j hj t ht=>?_)
      obtain ⟨pa',ca',e1',hr2⟩:=rn
      obtain ⟨rfl,-,rfl⟩:=(Value.slice.injEq _ _ _ _ _ _).mp e1'
      obtain ⟨b,hb,hcb,-,hrb⟩:=hr2 (by omega)
      obtain rfl:=Option.some.inj hb
      obtain ⟨k0,k1,k2,k3,k4⟩:=hrb j hj
      rw [addr0] at k0 k1 k2 k3 k4
      rcases (by omega : t = 0 ∨ t = 1 ∨ t = 2 ∨ t = 3 ∨ t = 4) with rfl | rfl | rfl | rfl | rfl
      · exact ⟨_,k0⟩
      · exact ⟨_,k1⟩
      · exact ⟨_,k2⟩
      · exact ⟨_,k3⟩
      · exact ⟨_,k4⟩
    · refine ex (X:=fun _ _=>none) (by decide) (fun j hj t ht=>?_)
      obtain ⟨pa',ca',e1',hr2⟩:=rm
      obtain ⟨rfl,-,rfl⟩:=(Value.slice.injEq _ _ _ _ _ _).mp e1'
      obtain ⟨b,hb,hcb,-,hrb⟩:=hr2 (by omega)
      obtain rfl:=Option.some.inj hb
      obtain ⟨k0,k1,k2,k3⟩:=hrb j hj
      rw [addr0] at k0 k1 k2 k3
      rcases (by omega : t = 0 ∨ t = 1 ∨ t = 2 ∨ t = 3) with rfl | rfl | rfl | rfl
      · exact ⟨_,k0⟩
      · exact ⟨_,k1⟩
      · exact ⟨_,k2⟩
      · exact ⟨_,k3⟩
end Go.Proofs.YtnmeemjoodoalaaGreatDoor.Fo
