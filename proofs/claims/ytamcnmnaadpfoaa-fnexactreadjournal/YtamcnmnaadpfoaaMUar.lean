import Derived.Test.YtamcnmnaadpfoaaMUao
namespace Go.Proofs.Ytamcnmnaadpfoaa.Fo
open Go.ChangeShapes Go.WideShapes Go.ChangeAt Go.RowKit
set_option linter.unusedVariables false
set_option maxRecDepth 100000
/-- the bytes of a thing -/
def t8 (T : Nat) (ys : List Gv) : List UInt8 := vb T ++ (vb ys.length ++ ys.flatMap v8)
/-- what a read thing leaves behind -/
def RT9 (b : Nat) (p : Option Addr) (c : Nat) (M : List UInt8) (k : Nat) (lost : Bool) (W : World) (e : Ending) (w' : World) : Prop := ∃ (t : Int) (v : Value) (L : List Gv) (k' : Nat) (l' : Bool), e = .returned (.agg #[.int .i64 t, v]) ∧ RI b p c M k' l' w' ∧ k ≤ k' ∧ Kg b W w' ∧ w'.ownsRow W.heap.size 41 4 v L.length (L.flatMap glc) ∧ (∀ x, x ∈ L → Rv9 x) ∧ Rn t ∧ L.length ≤ 300 ∧ (l' = false → k + L.length < k') ∧ (lost = true → l' = true) ∧ ∀ (T : Nat) (ys : List Gv) rest, lost = false → T ≤ 9223372036854775807 → (∀ y, y ∈ ys → Wv y) → ys.length ≤ 300 → M.drop k = t8 T ys ++ rest → t = (T : Int) ∧ L = ys ∧ k' = k + (t8 T ys).length ∧ l' = false
theorem ownsRow_mono9 {w : World} {base base' : Nat} {e : TypeId} {size : Nat} {v : Value} {n : Nat} {xs : List Value} (h : w.ownsRow base e size v n xs) (hb : base' ≤ base) : w.ownsRow base' e size v n xs := by
  refine ⟨h.1, ?_⟩
  rcases h.2 with h | ⟨g, cap, cur, rfl, h1, h2, h3⟩
  · exact .inl h
  · exact .inr ⟨g, cap, cur, rfl, Nat.le_trans hb h1, h2, h3⟩
set_option maxHeartbeats 8000000 in
theorem im_rthing {b : Nat} {p : Option Addr} {c : Nat} {M : List UInt8} {k : Nat} {lost : Bool} {W : World} (h : RI b p c M k lost W) :
    Calls Try.prog 82 #[.pointer (some ⟨b, 0, none⟩)] W (RT9 b p c M k lost W) := by
  obtain ⟨w1, hw1⟩ : ∃ w1, w1 = W.alloc (.cells #[.int .i64 0, .slice none 0 0] 50) := ⟨_, rfl⟩
  have k1 : Kb 0 W w1 := by rw [hw1]; exact kb_alloc _ _ _
  have z1 : w1.heap.size = W.heap.size + 1 := by rw [hw1, World.size_alloc]
  have b1 : w1.heap[W.heap.size]? = some (.cells #[.int .i64 0, .slice none 0 0] 50 (0, 0)) := by rw [hw1]; exact alloc_new _ _ _
  have HB := im_rcount (h.kb k1)
  have HW1 : Hid (w1 = W.alloc (.cells #[.int .i64 0, .slice none 0 0] 50)) := hw1
  have HH : Hid (Kb 0 W w1 ∧ w1.heap.size = W.heap.size + 1 ∧ w1.heap[W.heap.size]? = some (.cells #[.int .i64 0, .slice none 0 0] 50 (0, 0)) ∧ RI b p c M k lost W) := (⟨k1, z1, b1, h⟩ : _ ∧ _)
  clear h hw1 k1 z1 b1
  go_enter Try.func82, Try.ntmps82
  go_upto_region 1 with fail
  rw [← (show w1 = _ from HW1)]
  clear HW1
  go_wp2_with fail
  refine HB.mono ?_
  rintro e w2 ⟨v2, k1, l1, rfl, a1, a2, a3, t, rfl, a4, a5, a6, a7⟩
  clear HB
  have HB := im_rcount a1
  have HA : Hid (RI b p c M k1 l1 w2 ∧ k ≤ k1 ∧ Kz b w1 w2 ∧ Rn t ∧ (l1 = false → k < k1) ∧ (lost = true → l1 = true) ∧ ∀ (y : Nat) rest, lost = false → y ≤ 9223372036854775807 → M.drop k = vb y ++ rest → t = (y : Int) ∧ k1 = k + (vb y).length ∧ l1 = false) := (⟨a1, a2, a3, a4, a5, a6, a7⟩ : _ ∧ _)
  clear a1 a2 a3 a4 a5 a6 a7
  go_wp2_with fail
  refine HB.mono ?_
  rintro e w3 ⟨v3, k2, l2, rfl, c1, c2, c3, cnt, rfl, c4, c5, c6, c7⟩
  clear HB
  have HB := rl_val c1 300 (by omega) cnt
  have HC : Hid (RI b p c M k2 l2 w3 ∧ k1 ≤ k2 ∧ Kz b w2 w3 ∧ Rn cnt ∧ (l2 = false → k1 < k2) ∧ (l1 = true → l2 = true) ∧ ∀ (y : Nat) rest, l1 = false → y ≤ 9223372036854775807 → M.drop k1 = vb y ++ rest → cnt = (y : Int) ∧ k2 = k1 + (vb y).length ∧ l2 = false) := (⟨c1, c2, c3, c4, c5, c6, c7⟩ : _ ∧ _)
  clear c1 c2 c3 c4 c5 c6 c7
  go_wp2_with fail
  refine HB.mono ?_
  rintro e w4 ⟨v4, k', l', L, rfl, d1, d2, d3, d4, d5, d6, d7, d8, d9⟩
  clear HB
  obtain ⟨ad, cap, rfl⟩ := own_shape d4
  obtain ⟨kb1, z1, b1, h0⟩ := (show Kb 0 W w1 ∧ w1.heap.size = W.heap.size + 1 ∧ w1.heap[W.heap.size]? = some (.cells #[.int .i64 0, .slice none 0 0] 50 (0, 0)) ∧ RI b p c M k lost W from HH)
  obtain ⟨a1, a2, a3, a4, a5, a6, a7⟩ := (show RI b p c M k1 l1 w2 ∧ k ≤ k1 ∧ Kz b w1 w2 ∧ Rn t ∧ (l1 = false → k < k1) ∧ (lost = true → l1 = true) ∧ ∀ (y : Nat) rest, lost = false → y ≤ 9223372036854775807 → M.drop k = vb y ++ rest → t = (y : Int) ∧ k1 = k + (vb y).length ∧ l1 = false from HA)
  obtain ⟨c1, c2, c3, c4, c5, c6, c7⟩ := (show RI b p c M k2 l2 w3 ∧ k1 ≤ k2 ∧ Kz b w2 w3 ∧ Rn cnt ∧ (l2 = false → k1 < k2) ∧ (l1 = true → l2 = true) ∧ ∀ (y : Nat) rest, l1 = false → y ≤ 9223372036854775807 → M.drop k1 = vb y ++ rest → cnt = (y : Int) ∧ k2 = k1 + (vb y).length ∧ l2 = false from HC)
  have hbl := h0.lt
  have z2 : w2.heap.size = W.heap.size + 1 := by rw [a3.size, z1]
  have z3 : w3.heap.size = W.heap.size + 1 := by rw [c3.size, z2]
  have b3 : w3.heap[W.heap.size]? = some (.cells #[.int .i64 0, .slice none 0 0] 50 (0, 0)) := (c3.block _ (by omega)).trans ((a3.block _ (by omega)).trans b1)
  have b4 : w4.heap[W.heap.size]? = some (.cells #[.int .i64 0, .slice none 0 0] 50 (0, 0)) := (d3.block _ (by omega) (by omega)).trans b3
  have kg4 : Kg b W w4 := (((Kg.of_kb kb1).trans a3.kg).trans c3.kg).trans d3
  have s0 : w4.cell? ⟨W.heap.size, 0, none⟩ = some (.int .i64 0) := cell_of b4 rfl
  have s1 : w4.cell? ⟨W.heap.size, 1, none⟩ = some (.slice none 0 0) := cell_of b4 rfl
  have sf : ∀ j, w4.frozen? ⟨W.heap.size, j, none⟩ = false := fun j => frozen_of b4
  obtain ⟨WF, hWF⟩ : ∃ WF, WF = (w4.setCell ⟨W.heap.size, 0, none⟩ (.int .i64 t)).setCell ⟨W.heap.size, 1, none⟩ (.slice ad L.length cap) := ⟨_, rfl⟩
  have bF : WF.heap[W.heap.size]? = some (.cells #[.int .i64 t, .slice ad L.length cap] 50 (0, 0)) := by rw [hWF, set_known _ (set_known _ b4)]; rfl
  have e0 : WF.cell? ⟨W.heap.size, 0, none⟩ = some (.int .i64 t) := cell_of bF rfl
  have e1 : WF.cell? ⟨W.heap.size, 1, none⟩ = some (.slice ad L.length cap) := cell_of bF rfl
  have hfr : ∀ q, q ≠ W.heap.size → WF.heap[q]? = w4.heap[q]? := fun q hq => by rw [hWF, Below.heap_setCell _ _ _ _ hq, Below.heap_setCell _ _ _ _ hq]
  have kgF : Kg b W WF := ⟨by rw [hWF]; exact kg4.os, by rw [hWF]; exact kg4.output, by rw [hWF, World.size_setCell, World.size_setCell]; exact kg4.size, fun q h1 h2 => (hfr q (by omega)).trans (kg4.block q h1 h2)⟩
  have HF : Hid (RT9 b p c M k lost W (.returned (.agg #[.int .i64 t, .slice ad L.length cap])) WF) := (⟨t, _, L, k', l', rfl, h0.kg kgF ((hfr b (by omega)).trans d1.blk) d1.le, by omega, kgF, ownsRow_mono9 (rowBlk9 d4 (fun g e => hfr g (by have := (d4.lt g e).1; omega))) (by omega), d5, a4, d6, fun e => by
      have e2 := nlost d7 e
      have := c5 e2
      have := d8 e
      omega, fun e => d7 (c6 (a6 e)), fun T ys rest el hT hys hlen hm => by
      unfold t8 at hm ⊢
      rw [List.append_assoc, List.append_assoc] at hm
      obtain ⟨q1, q2, q3⟩ := a7 T _ el hT hm
      have hm2 := drop_app hm
      rw [← q2] at hm2
      obtain ⟨r1, r2, r3⟩ := c7 ys.length _ q3 (by omega) hm2
      have hm3 := drop_app hm2
      rw [← r2] at hm3
      obtain ⟨g1, g2, g3⟩ := d9 ys rest r3 hys r1 hlen hm3
      exact ⟨q1, g1, by rw [g2, r2, q2, List.length_append, List.length_append]; omega, g3⟩⟩ : RT9 b p c M k lost W _ WF)
  have HWF : Hid (WF = _) := hWF
  clear d1 d2 d3 d4 d5 d6 d7 d8 d9 kb1 z1 b1 h0 a1 a2 a3 a4 a5 a6 a7 c1 c2 c3 c4 c5 c6 c7 hbl z2 z3 b3 b4 kg4 hWF bF hfr kgF HH HA HC
  go_wp2_with fail
  rw [← (show WF = _ from HWF)]
  clear HWF
  refine bodyPost_ret (by simp [results, Try.results82, go_sem, e0, e1]; rfl) rfl ?_
  exact HF
end Go.Proofs.Ytamcnmnaadpfoaa.Fo

namespace Go.Proofs.Ytamcnmnaadpfoaa.Fo
open Go.ChangeShapes Go.WideShapes Go.ChangeAt Go.RowKit
set_option linter.unusedVariables false
set_option maxRecDepth 100000
/-- a row of one's own in a block below hi -/
def OwnB (lo hi : Nat) (w : World) (e : TypeId) (size : Nat) (v : Value) (n : Nat) (xs : List Value) : Prop := w.ownsRow lo e size v n xs ∧ ∀ g, v.ownBlock = some g → g < hi
theorem OwnB.blk {lo hi : Nat} {w w' : World} {e : TypeId} {size : Nat} {v : Value} {n : Nat} {xs : List Value} (h : OwnB lo hi w e size v n xs) (k : ∀ g, lo ≤ g → g < hi → w'.heap[g]? = w.heap[g]?) : OwnB lo hi w' e size v n xs :=
  ⟨rowBlk9 h.1 (fun g e => k g (h.1.lt g e).1 (h.2 g e)), h.2⟩
/-- a thing that was read, with the value of its row -/
abbrev TV := (Int × List Gv) × Value
def tvc (z : TV) : List Value := [.int .i64 z.1.1, z.2]
def te (q : Int × List Gv) : List UInt8 := t8 q.1.toNat q.2
def Tok (q : Int × List Gv) : Prop := 0 ≤ q.1 ∧ q.1 ≤ 9223372036854775807 ∧ (∀ y, y ∈ q.2 → Wv y) ∧ q.2.length ≤ 300
def Ttt (q : Int × List Gv) : Prop := Rn q.1 ∧ (∀ x, x ∈ q.2 → Rv9 x) ∧ q.2.length ≤ 300
def smT : List TV → Nat
  | [] => 0
  | z :: L => z.1.2.length + smT L
theorem smT_app (L : List TV) (z : TV) : smT (L ++ [z]) = smT L + z.1.2.length := by
  induction L with
  | nil => simp [smT]
  | cons a L ih => simp only [List.cons_append, smT, ih]; omega
/-- the things' own rows: that of each in a block of its own -/
def OwnT (B : Nat) (w : World) (L : List TV) (ob : Option Nat) : Prop := ∃ lo hi : Nat → Nat,
  (∀ i z, L[i]? = some z → B ≤ lo i ∧ hi i ≤ w.heap.size ∧ OwnB (lo i) (hi i) w 41 4 z.2 z.1.2.length (z.1.2.flatMap glc)) ∧ (∀ i j, i < j → j < L.length → hi i ≤ lo j) ∧ (∀ g i, ob = some g → i < L.length → ¬ (lo i ≤ g ∧ g < hi i))
theorem OwnT.step {B : Nat} {wr w1 w3 : World} {L : List TV} {ob : Option Nat} {q : Int × List Gv} {vq : Value} {o : Obj} {g' b : Nat} (h : OwnT B wr L ob) (hk : Kg b wr w1) (hb : b < B) (hB : B ≤ wr.heap.size) (hob : ∀ g, ob = some g → g < wr.heap.size) (hq : OwnB wr.heap.size w1.heap.size w1 41 4 vq q.2.length (q.2.flatMap glc)) (hg : (w1.alloc o).grownBy w3 ob) (hl : ob = some g' ∨ g' = w1.heap.size + 1) : OwnT B w3 (L ++ [(q, vq)]) (some g') := by
  obtain ⟨lo, hi, h1, h2, h3⟩ := h
  have hs := hk.size
  have hs3 := hg.size
  rw [World.size_alloc] at hs3
  have hlh : ∀ i, i < L.length → hi i ≤ wr.heap.size := fun i hi' => (h1 i _ (List.getElem?_eq_getElem hi')).2.1
  refine ⟨fun i => if i < L.length then lo i else wr.heap.size, fun i => if i < L.length then hi i else w1.heap.size, ?_, ?_, ?_⟩
  · intro i z hz
    rcases Nat.lt_or_ge i L.length with hi' | hi'
    · rw [List.getElem?_append_left hi'] at hz
      obtain ⟨q1, q2, q3⟩ := h1 i z hz
      simp only [if_pos hi']
      refine ⟨q1, by omega, q3.blk (fun g a c => ?_)⟩
      have e1 : w3.heap[g]? = (w1.alloc o).heap[g]? := hg.block g (by rw [World.size_alloc]; omega) (fun e => h3 g i e.symm hi' ⟨a, c⟩)
      have e2 : (w1.alloc o).heap[g]? = w1.heap[g]? := (kb_alloc 0 w1 o).block g (Nat.zero_le _) (by omega)
      exact (e1.trans e2).trans (hk.block g (by omega) (by omega))
    · rw [List.getElem?_append_right hi'] at hz
      have e0 : i - L.length = 0 := by
        have hlt := (List.getElem?_eq_some_iff.1 hz).1
        simp at hlt
        omega
      rw [e0] at hz
      simp at hz
      subst hz
      simp only [if_neg (show ¬ i < L.length by omega)]
      refine ⟨hB, by omega, hq.blk (fun g a c => ?_)⟩
      have e1 : w3.heap[g]? = (w1.alloc o).heap[g]? := hg.block g (by rw [World.size_alloc]; omega) (fun e => by have := hob g e.symm; omega)
      exact e1.trans ((kb_alloc 0 w1 o).block g (Nat.zero_le _) (by omega))
  · intro i j hij hj
    rw [List.length_append, List.length_singleton] at hj
    rcases Nat.lt_or_ge j L.length with hj' | hj'
    · simp only [if_pos hj', if_pos (show i < L.length by omega)]
      exact h2 i j hij hj'
    · simp only [if_neg (show ¬ j < L.length by omega), if_pos (show i < L.length by omega)]
      exact hlh i (by omega)
  · intro g i e hi' 
    injection e with e
    subst e
    rw [List.length_append, List.length_singleton] at hi'
    rcases Nat.lt_or_ge i L.length with hj' | hj'
    · simp only [if_pos hj']
      rcases hl with hl | hl
      · exact h3 _ i hl hj'
      · have := hlh i hj'
        omega
    · simp only [if_neg (show ¬ i < L.length by omega)]
      rcases hl with hl | hl
      · have := hob _ hl
        omega
      · omega
/-- between two things -/
structure RTs (b : Nat) (p : Option Addr) (c : Nat) (M : List UInt8) (k : Nat) (lost : Bool) (W : World) (most : Nat) (cnt : Int) (L : List TV) (k' : Nat) (l' : Bool) (v : Value) (wr : World) : Prop where
  rd : RI b p c M k' l' wr
  r0 : RI b p c M k lost W
  le : k ≤ k'
  ks : Kg b W wr
  row : wr.ownsRow W.heap.size 50 2 v L.length (L.flatMap tvc)
  own : OwnT W.heap.size wr L v.ownBlock
  tt : ∀ z, z ∈ L → Ttt z.1
  mo : L.length ≤ most
  cn : l' = false → cnt ≤ (most : Int)
  lo : lost = true → l' = true
  gt : l' = false → k + smT L ≤ k'
  ex : LJ te Tok M k lost most cnt (L.map (·.1)) k' l'
def RTL (b : Nat) (p : Option Addr) (c : Nat) (M : List UInt8) (k : Nat) (lost : Bool) (W : World) (most : Nat) (cnt : Int) (e : Ending) (w' : World) : Prop :=
  ∃ v k' l' L, e = .returned v ∧ RI b p c M k' l' w' ∧ k ≤ k' ∧ Kg b W w' ∧ w'.ownsRow W.heap.size 50 2 v L.length (L.flatMap tvc) ∧ OwnT W.heap.size w' L v.ownBlock ∧ (∀ z, z ∈ L → Ttt z.1) ∧ L.length ≤ most ∧ (lost = true → l' = true) ∧ (l' = false → k + smT L ≤ k') ∧ LX te Tok M k lost most cnt (L.map (·.1)) k' l'
theorem RTs.done {b : Nat} {p : Option Addr} {c : Nat} {M : List UInt8} {k : Nat} {lost : Bool} {W : World} {most : Nat} {cnt : Int} {L : List TV} {k' : Nat} {l' : Bool} {v : Value} {wr : World} (s : RTs b p c M k lost W most cnt L k' l' v wr) (hc : ¬ ((L.length : Int) < cnt ∧ l' = false)) : RTL b p c M k lost W most cnt (.returned v) wr :=
  ⟨v, k', l', L, rfl, s.rd, s.le, s.ks, s.row, s.own, s.tt, s.mo, s.lo, s.gt, s.ex.done (by rw [List.length_map]; exact hc)⟩
theorem RTs.begin {b : Nat} {p : Option Addr} {c : Nat} {M : List UInt8} {k : Nat} {lost : Bool} {W : World} {most : Nat} {cnt : Int} (h : RI b p c M k lost W) :
    RTs b p c M k lost W most cnt [] k (lost || decide ((most : Int) < cnt)) (.slice none 0 0) (W.setCell ⟨b, 2, none⟩ (.bool (lost || decide ((most : Int) < cnt)))) := by
  have s : RLs (α := Int × List Gv) (fun _ => []) 50 2 te (fun _ => True) Tok b p c M k lost W most cnt [] k (lost || decide ((most : Int) < cnt)) (.slice none 0 0) (W.setCell ⟨b, 2, none⟩ (.bool (lost || decide ((most : Int) < cnt)))) := RLs.begin h
  exact ⟨s.rd, s.r0, s.le, s.ks, World.ownsRow_nil _ _ _ _, ⟨fun _ => 0, fun _ => 0, fun i z hz => by simp at hz, fun i j _ hj => by simp at hj, fun g i _ hj => by simp at hj⟩, fun x hx => (nomatch hx), Nat.zero_le _, s.cn, s.lo, s.gt, s.ex⟩
theorem RTs.step {b : Nat} {p : Option Addr} {c : Nat} {M : List UInt8} {k : Nat} {lost : Bool} {W : World} {most : Nat} {cnt : Int} {L : List TV} {k' : Nat} {l' : Bool} {v : Value} {wr : World} (s : RTs b p c M k lost W most cnt L k' l' v wr) (hl : l' = false) (hc : (L.length : Int) < cnt)
    {w1 : World} {q : Int × List Gv} {vq : Value} {k2 : Nat} {l2 : Bool} (h1 : RI b p c M k2 l2 w1) (h2 : k' ≤ k2) (h3 : Kg b wr w1) (hq : w1.ownsRow wr.heap.size 41 4 vq q.2.length (q.2.flatMap glc)) (h4 : Ttt q) (h5 : l2 = false → k' + q.2.length < k2) (h6 : l' = true → l2 = true) (h7 : ∀ (T : Nat) (ys : List Gv) rest, l' = false → T ≤ 9223372036854775807 → (∀ y, y ∈ ys → Wv y) → ys.length ≤ 300 → M.drop k' = t8 T ys ++ rest → q.1 = (T : Int) ∧ q.2 = ys ∧ k2 = k' + (t8 T ys).length ∧ l2 = false)
    {o : Obj} {g' c' n' : Nat} {w3 : World} (h8 : w3.ownsRow W.heap.size 50 2 (.slice (some ⟨g', 0, none⟩) n' c') (L.length + 1) (L.flatMap tvc ++ tvc (q, vq))) (h9 : (w1.alloc o).grownBy w3 v.ownBlock) (h10 : v.ownBlock = some g' ∨ g' = w1.heap.size + 1) : RTs b p c M k lost W most cnt (L ++ [(q, vq)]) k2 l2 (.slice (some ⟨g', 0, none⟩) n' c') w3 := by
  have hg : ∀ g, v.ownBlock = some g → W.heap.size ≤ g := fun g e => (s.row.lt g e).1
  have hb := s.r0.lt
  have hb1 := h1.lt
  have ka : Kb 0 w1 (w1.alloc o) := kb_alloc 0 w1 o
  have kk : Kg b W w3 := ((s.ks.trans h3).trans (Kg.of_kb ka)).gr h9 hg
  have hbk : w3.heap[b]? = w1.heap[b]? := (h9.block b (by have := ka.size; omega) (fun e => by have := hg b e.symm; omega)).trans (ka.block b (Nat.zero_le _) hb1)
  refine ⟨s.r0.kg kk (hbk.trans h1.blk) h1.le, s.r0, Nat.le_trans s.le h2, kk, ?_, ?_, ?_, ?_, ?_, ?_, ?_, ?_⟩
  · rw [List.length_append, List.flatMap_append]
    simpa using h8
  · exact s.own.step h3 hb s.ks.size (fun g e => (s.row.lt g e).2) ⟨hq, fun g e => (hq.lt g e).2⟩ h9 h10
  · intro y hy
    rcases List.mem_append.1 hy with hy | hy
    · exact s.tt y hy
    · rw [List.mem_singleton.1 hy]; exact h4
  · have := s.cn hl
    rw [List.length_append, List.length_singleton]
    omega
  · intro e
    exact s.cn hl
  · intro e
    exact h6 (s.lo e)
  · intro e
    have := s.gt hl
    have := h5 e
    rw [smT_app]
    show k + (smT L + q.2.length) ≤ k2
    omega
  · rw [List.map_append]
    exact s.ex.step (by rw [List.length_map]; exact hc) (fun y rest e hy hm => by
      obtain ⟨r1, r2, r3, r4⟩ := h7 y.1.toNat y.2 rest e (by have := hy.2.1; omega) hy.2.2.1 hy.2.2.2 hm
      have h0 := hy.1
      exact ⟨Prod.ext (by rw [r1]; omega) r2, r3, r4⟩)
set_option maxHeartbeats 16000000 in
theorem rl_thing {b : Nat} {p : Option Addr} {c : Nat} {M : List UInt8} {k : Nat} {lost : Bool} {W : World} (h : RI b p c M k lost W) (most : Nat) (hm : most ≤ 6000) (cnt : Int) :
    Calls Try.prog 81 #[.pointer (some ⟨b, 0, none⟩), .int .i64 cnt, .int .i64 (most : Int), .func (Fn.func 82) #[.pointer (some ⟨b, 0, none⟩)] #[]] W (RTL b p c M k lost W most cnt) := by
  obtain ⟨i0, hi0, hz0, hz1, hz2⟩ := info_parts infoT
  have HI0 : Hid (Try.prog.info? 50 = some i0) := hi0
  have c2 : W.cell? ⟨b, 2, none⟩ = some (.bool lost) := cell_of h.blk rfl
  have f2 : W.frozen? ⟨b, 2, none⟩ = false := frozen_of h.blk
  have HS : Hid (RTs b p c M k lost W most cnt [] k (lost || decide ((most : Int) < cnt)) (.slice none 0 0) (W.setCell ⟨b, 2, none⟩ (.bool (lost || decide ((most : Int) < cnt))))) := RTs.begin h
  have HM : Hid (most ≤ 6000) := hm
  clear h hm hi0
  by_cases hl1 : lost = true
  · subst hl1
    rw [Bool.true_or] at HS
    go_enter Try.func81, Try.ntmps81
    go_upto_region 3 with fail
    clear c2 f2
    obtain ⟨w2, hw2⟩ : ∃ w2, w2 = W.setCell ⟨b, 2, none⟩ (.bool true) := ⟨_, rfl⟩
    rw [← hw2] at HS ⊢
    clear hw2
    go_loopw [9] (fun s9 wr => ∃ (L : List TV) (k' : Nat) (l' : Bool), Hid (RTs b p c M k true W most cnt L k' l' s9 wr)) (fun s9 _ => cnt.toNat - lnOf s9)
    case atStart => exact ⟨[], k, true, HS⟩
    case round =>
      clear HS
      obtain ⟨L, k', l', HR⟩ := hrel
      have hR := (show RTs b p c M k true W most cnt L k' l' u9 wr from HR)
      obtain ⟨ad, cap, rfl⟩ := own_shape hR.row
      clear HR
      have c2 : wr.cell? ⟨b, 2, none⟩ = some (.bool l') := cell_of hR.rd.blk rfl
      have hLm : (L.length : Int) ≤ 6000 := by have := hR.mo; have := (show most ≤ 6000 from HM); omega
      by_cases hgo : (L.length : Int) < cnt
      · cases l' with
        | true =>
          have HD : Hid (RTL b p c M k true W most cnt (.returned (.slice ad L.length cap)) wr) := hR.done (by simp)
          clear hR HI0
          go_wp2_with fail
          go_ret
          exact HD
        | false =>
          have HC := im_rthing hR.rd
          have HST : Hid (RTs b p c M k true W most cnt L k' false (.slice ad L.length cap) wr) := hR
          have hbz : b < W.heap.size := hR.r0.lt
          have hwz := hR.ks.size
          clear hR
          go_wp2_with fail
          refine HC.mono ?_
          rintro e w1 ⟨t, vq, Lq, k2, l2, rfl, y1, y2, y3, yo, y4a, y4b, y4c, y5, y6, y7⟩
          obtain ⟨av, cv, rfl⟩ := own_shape yo
          obtain ⟨nv, hnv⟩ : ∃ nv, nv = Lq.length := ⟨_, rfl⟩
          rw [← hnv] at yo ⊢
          have hw1 := y3.size
          have hown := Kg.row (Kg.of_kb (b := b) (kb_alloc 0 w1 (.cells #[.int .i64 t, .slice av nv cv] 50))) (Kg.row y3 (show RTs b p c M k true W most cnt L k' false (.slice ad L.length cap) wr from HST).row hbz) hbz
          have hqc := qr_cells w1 #[.int .i64 t, .slice av nv cv] 50 [.int .i64 t, .slice av nv cv] rfl
          have h1c : ∀ u ∈ ([.int .i64 t, .slice av nv cv] : List Value), u.oneCell' = true := by intro u hu; simp at hu; rcases hu with rfl | rfl <;> rfl
          have HSTP : Hid (∀ (g' c' : Nat) (w3 : World), w3.ownsRow W.heap.size 50 2 (.slice (some ⟨g', 0, none⟩) (L.length + 1) c') (L.length + 1) (L.flatMap tvc ++ [.int .i64 t, .slice av nv cv]) → (w1.alloc (.cells #[.int .i64 t, .slice av nv cv] 50)).grownBy w3 (Value.slice ad L.length cap).ownBlock → ((Value.slice ad L.length cap).ownBlock = some g' ∨ g' = w1.heap.size + 1) → RTs b p c M k true W most cnt (L ++ [((t, Lq), Value.slice av nv cv)]) k2 l2 (.slice (some ⟨g', 0, none⟩) (L.length + 1) c') w3) := (fun g' c' w3 h1 h2 h3 => (show RTs b p c M k true W most cnt L k' false (.slice ad L.length cap) wr from HST).step (q := (t, Lq)) rfl hgo y1 y2 y3 (by rw [hnv] at yo ⊢; exact yo) ⟨y4b, y4a, y4c⟩ y5 y6 y7 h1 h2 h3 : ∀ (g' c' : Nat) (w3 : World), _)
          clear y1 y2 y3 yo y4a y4b y4c y5 y6 y7 HC HST c2 hnv
          go_wp2_with (at_builtin; refine wpList_append_lies _ rfl (.tmp 36) (.tmp 39) 42 rfl W.heap.size 50 i0 (.agg #[.int .i64 0, .slice none 0 0]) 2 32 Try.underlying42 HI0 hz0 hz1 hz2 rfl (by decide) _ _ _ rfl hown ⟨w1.heap.size, 0, none⟩ 1 1 [.int .i64 t, .slice av nv cv] rfl rfl hqc h1c (by decide) (by unfold maxLen; omega) (by omega) (by simp; omega) (w1.heap.size + 1) (by simp) ?_; intro g' cap' w3 hown3 hgr3 hl3 _; have HN : Hid (RTs b p c M k true W most cnt (L ++ [((t, Lq), Value.slice av nv cv)]) k2 l2 (.slice (some ⟨g', 0, none⟩) (L.length + 1) cap') w3) := (show ∀ (g' c' : Nat) (w3 : World), _ from HSTP) _ _ _ hown3 hgr3 hl3; clear hown3 hgr3 hl3 hown hqc h1c HSTP)
          go_roundw
          case rel => exact ⟨L ++ [((t, Lq), Value.slice av nv cv)], k2, l2, HN⟩
          case measure => simp [lnOf]; omega
      · have HD : Hid (RTL b p c M k true W most cnt (.returned (.slice ad L.length cap)) wr) := hR.done (fun e => hgo e.1)
        clear hR HI0
        go_wp2_with fail
        go_ret
        exact HD
  · obtain rfl : lost = false := by cases lost <;> simp_all
    rw [Bool.false_or] at HS
    by_cases hcm : (most : Int) < cnt
    · rw [decide_eq_true hcm] at HS
      go_enter Try.func81, Try.ntmps81
      go_upto_region 3 with fail
      clear c2 f2 hcm
      obtain ⟨w2, hw2⟩ : ∃ w2, w2 = W.setCell ⟨b, 2, none⟩ (.bool true) := ⟨_, rfl⟩
      rw [← hw2] at HS ⊢
      clear hw2
      go_loopw [9] (fun s9 wr => ∃ (L : List TV) (k' : Nat) (l' : Bool), Hid (RTs b p c M k false W most cnt L k' l' s9 wr)) (fun s9 _ => cnt.toNat - lnOf s9)
      case atStart => exact ⟨[], k, true, HS⟩
      case round =>
        clear HS
        obtain ⟨L, k', l', HR⟩ := hrel
        have hR := (show RTs b p c M k false W most cnt L k' l' u9 wr from HR)
        obtain ⟨ad, cap, rfl⟩ := own_shape hR.row
        clear HR
        have c2 : wr.cell? ⟨b, 2, none⟩ = some (.bool l') := cell_of hR.rd.blk rfl
        have hLm : (L.length : Int) ≤ 6000 := by have := hR.mo; have := (show most ≤ 6000 from HM); omega
        by_cases hgo : (L.length : Int) < cnt
        · cases l' with
          | true =>
            have HD : Hid (RTL b p c M k false W most cnt (.returned (.slice ad L.length cap)) wr) := hR.done (by simp)
            clear hR HI0
            go_wp2_with fail
            go_ret
            exact HD
          | false =>
            have HC := im_rthing hR.rd
            have HST : Hid (RTs b p c M k false W most cnt L k' false (.slice ad L.length cap) wr) := hR
            have hbz : b < W.heap.size := hR.r0.lt
            have hwz := hR.ks.size
            clear hR
            go_wp2_with fail
            refine HC.mono ?_
            rintro e w1 ⟨t, vq, Lq, k2, l2, rfl, y1, y2, y3, yo, y4a, y4b, y4c, y5, y6, y7⟩
            obtain ⟨av, cv, rfl⟩ := own_shape yo
            obtain ⟨nv, hnv⟩ : ∃ nv, nv = Lq.length := ⟨_, rfl⟩
            rw [← hnv] at yo ⊢
            have hw1 := y3.size
            have hown := Kg.row (Kg.of_kb (b := b) (kb_alloc 0 w1 (.cells #[.int .i64 t, .slice av nv cv] 50))) (Kg.row y3 (show RTs b p c M k false W most cnt L k' false (.slice ad L.length cap) wr from HST).row hbz) hbz
            have hqc := qr_cells w1 #[.int .i64 t, .slice av nv cv] 50 [.int .i64 t, .slice av nv cv] rfl
            have h1c : ∀ u ∈ ([.int .i64 t, .slice av nv cv] : List Value), u.oneCell' = true := by intro u hu; simp at hu; rcases hu with rfl | rfl <;> rfl
            have HSTP : Hid (∀ (g' c' : Nat) (w3 : World), w3.ownsRow W.heap.size 50 2 (.slice (some ⟨g', 0, none⟩) (L.length + 1) c') (L.length + 1) (L.flatMap tvc ++ [.int .i64 t, .slice av nv cv]) → (w1.alloc (.cells #[.int .i64 t, .slice av nv cv] 50)).grownBy w3 (Value.slice ad L.length cap).ownBlock → ((Value.slice ad L.length cap).ownBlock = some g' ∨ g' = w1.heap.size + 1) → RTs b p c M k false W most cnt (L ++ [((t, Lq), Value.slice av nv cv)]) k2 l2 (.slice (some ⟨g', 0, none⟩) (L.length + 1) c') w3) := (fun g' c' w3 h1 h2 h3 => (show RTs b p c M k false W most cnt L k' false (.slice ad L.length cap) wr from HST).step (q := (t, Lq)) rfl hgo y1 y2 y3 (by rw [hnv] at yo ⊢; exact yo) ⟨y4b, y4a, y4c⟩ y5 y6 y7 h1 h2 h3 : ∀ (g' c' : Nat) (w3 : World), _)
            clear y1 y2 y3 yo y4a y4b y4c y5 y6 y7 HC HST c2 hnv
            go_wp2_with (at_builtin; refine wpList_append_lies _ rfl (.tmp 36) (.tmp 39) 42 rfl W.heap.size 50 i0 (.agg #[.int .i64 0, .slice none 0 0]) 2 32 Try.underlying42 HI0 hz0 hz1 hz2 rfl (by decide) _ _ _ rfl hown ⟨w1.heap.size, 0, none⟩ 1 1 [.int .i64 t, .slice av nv cv] rfl rfl hqc h1c (by decide) (by unfold maxLen; omega) (by omega) (by simp; omega) (w1.heap.size + 1) (by simp) ?_; intro g' cap' w3 hown3 hgr3 hl3 _; have HN : Hid (RTs b p c M k false W most cnt (L ++ [((t, Lq), Value.slice av nv cv)]) k2 l2 (.slice (some ⟨g', 0, none⟩) (L.length + 1) cap') w3) := (show ∀ (g' c' : Nat) (w3 : World), _ from HSTP) _ _ _ hown3 hgr3 hl3; clear hown3 hgr3 hl3 hown hqc h1c HSTP)
            go_roundw
            case rel => exact ⟨L ++ [((t, Lq), Value.slice av nv cv)], k2, l2, HN⟩
            case measure => simp [lnOf]; omega
        · have HD : Hid (RTL b p c M k false W most cnt (.returned (.slice ad L.length cap)) wr) := hR.done (fun e => hgo e.1)
          clear hR HI0
          go_wp2_with fail
          go_ret
          exact HD
    · rw [decide_eq_false hcm] at HS
      go_enter Try.func81, Try.ntmps81
      go_upto_region 3 with fail
      clear c2 f2
      obtain ⟨w2, hw2⟩ : ∃ w2, w2 = W.setCell ⟨b, 2, none⟩ (.bool false) := ⟨_, rfl⟩
      rw [← hw2] at HS ⊢
      clear hw2
      go_loopw [9] (fun s9 wr => ∃ (L : List TV) (k' : Nat) (l' : Bool), Hid (RTs b p c M k false W most cnt L k' l' s9 wr)) (fun s9 _ => cnt.toNat - lnOf s9)
      case atStart => exact ⟨[], k, false, HS⟩
      case round =>
        clear HS
        obtain ⟨L, k', l', HR⟩ := hrel
        have hR := (show RTs b p c M k false W most cnt L k' l' u9 wr from HR)
        obtain ⟨ad, cap, rfl⟩ := own_shape hR.row
        clear HR
        have c2 : wr.cell? ⟨b, 2, none⟩ = some (.bool l') := cell_of hR.rd.blk rfl
        have hLm : (L.length : Int) ≤ 6000 := by have := hR.mo; have := (show most ≤ 6000 from HM); omega
        by_cases hgo : (L.length : Int) < cnt
        · cases l' with
          | true =>
            have HD : Hid (RTL b p c M k false W most cnt (.returned (.slice ad L.length cap)) wr) := hR.done (by simp)
            clear hR HI0
            go_wp2_with fail
            go_ret
            exact HD
          | false =>
            have HC := im_rthing hR.rd
            have HST : Hid (RTs b p c M k false W most cnt L k' false (.slice ad L.length cap) wr) := hR
            have hbz : b < W.heap.size := hR.r0.lt
            have hwz := hR.ks.size
            clear hR
            go_wp2_with fail
            refine HC.mono ?_
            rintro e w1 ⟨t, vq, Lq, k2, l2, rfl, y1, y2, y3, yo, y4a, y4b, y4c, y5, y6, y7⟩
            obtain ⟨av, cv, rfl⟩ := own_shape yo
            obtain ⟨nv, hnv⟩ : ∃ nv, nv = Lq.length := ⟨_, rfl⟩
            rw [← hnv] at yo ⊢
            have hw1 := y3.size
            have hown := Kg.row (Kg.of_kb (b := b) (kb_alloc 0 w1 (.cells #[.int .i64 t, .slice av nv cv] 50))) (Kg.row y3 (show RTs b p c M k false W most cnt L k' false (.slice ad L.length cap) wr from HST).row hbz) hbz
            have hqc := qr_cells w1 #[.int .i64 t, .slice av nv cv] 50 [.int .i64 t, .slice av nv cv] rfl
            have h1c : ∀ u ∈ ([.int .i64 t, .slice av nv cv] : List Value), u.oneCell' = true := by intro u hu; simp at hu; rcases hu with rfl | rfl <;> rfl
            have HSTP : Hid (∀ (g' c' : Nat) (w3 : World), w3.ownsRow W.heap.size 50 2 (.slice (some ⟨g', 0, none⟩) (L.length + 1) c') (L.length + 1) (L.flatMap tvc ++ [.int .i64 t, .slice av nv cv]) → (w1.alloc (.cells #[.int .i64 t, .slice av nv cv] 50)).grownBy w3 (Value.slice ad L.length cap).ownBlock → ((Value.slice ad L.length cap).ownBlock = some g' ∨ g' = w1.heap.size + 1) → RTs b p c M k false W most cnt (L ++ [((t, Lq), Value.slice av nv cv)]) k2 l2 (.slice (some ⟨g', 0, none⟩) (L.length + 1) c') w3) := (fun g' c' w3 h1 h2 h3 => (show RTs b p c M k false W most cnt L k' false (.slice ad L.length cap) wr from HST).step (q := (t, Lq)) rfl hgo y1 y2 y3 (by rw [hnv] at yo ⊢; exact yo) ⟨y4b, y4a, y4c⟩ y5 y6 y7 h1 h2 h3 : ∀ (g' c' : Nat) (w3 : World), _)
            clear y1 y2 y3 yo y4a y4b y4c y5 y6 y7 HC HST c2 hnv
            go_wp2_with (at_builtin; refine wpList_append_lies _ rfl (.tmp 36) (.tmp 39) 42 rfl W.heap.size 50 i0 (.agg #[.int .i64 0, .slice none 0 0]) 2 32 Try.underlying42 HI0 hz0 hz1 hz2 rfl (by decide) _ _ _ rfl hown ⟨w1.heap.size, 0, none⟩ 1 1 [.int .i64 t, .slice av nv cv] rfl rfl hqc h1c (by decide) (by unfold maxLen; omega) (by omega) (by simp; omega) (w1.heap.size + 1) (by simp) ?_; intro g' cap' w3 hown3 hgr3 hl3 _; have HN : Hid (RTs b p c M k false W most cnt (L ++ [((t, Lq), Value.slice av nv cv)]) k2 l2 (.slice (some ⟨g', 0, none⟩) (L.length + 1) cap') w3) := (show ∀ (g' c' : Nat) (w3 : World), _ from HSTP) _ _ _ hown3 hgr3 hl3; clear hown3 hgr3 hl3 hown hqc h1c HSTP)
            go_roundw
            case rel => exact ⟨L ++ [((t, Lq), Value.slice av nv cv)], k2, l2, HN⟩
            case measure => simp [lnOf]; omega
        · have HD : Hid (RTL b p c M k false W most cnt (.returned (.slice ad L.length cap)) wr) := hR.done (fun e => hgo e.1)
          clear hR HI0
          go_wp2_with fail
          go_ret
          exact HD
end Go.Proofs.Ytamcnmnaadpfoaa.Fo

namespace Go.Proofs.Ytamcnmnaadpfoaa.Fo
open Go.ChangeShapes Go.WideShapes Go.ChangeAt Go.RowKit
set_option linter.unusedVariables false
set_option maxRecDepth 100000
/-- the bytes of a graph, behind its head -/
def g8 (y : Gv) (ys : List (Int × List Gv)) : List UInt8 := vb ys.length ++ (v8 y ++ ys.flatMap te)
/-- what a read graph leaves behind -/
def RG9 (b : Nat) (p : Option Addr) (c : Nat) (M : List UInt8) (k : Nat) (lost : Bool) (W : World) (e : Ending) (w' : World) : Prop := ∃ (a : Gv) (v : Value) (L : List TV) (k' : Nat) (l' : Bool), e = .returned (grv a v) ∧ RI b p c M k' l' w' ∧ k ≤ k' ∧ Kg b W w' ∧ w'.ownsRow W.heap.size 50 2 v L.length (L.flatMap tvc) ∧ OwnT W.heap.size w' L v.ownBlock ∧ (∀ z, z ∈ L → Ttt z.1) ∧ Rv9 a ∧ L.length ≤ 600 ∧ (l' = false → k + smT L ≤ k') ∧ (lost = true → l' = true) ∧ ∀ (y : Gv) (ys : List (Int × List Gv)) rest, lost = false → Wv y → (∀ q, q ∈ ys → Tok q) → ys.length ≤ 600 → M.drop k = g8 y ys ++ rest → a = y ∧ L.map (·.1) = ys ∧ k' = k + (g8 y ys).length ∧ l' = false
theorem OwnT.mono {B B' : Nat} {w w' : World} {L : List TV} {ob : Option Nat} (h : OwnT B w L ob) (hB : B' ≤ B) (hs : w.heap.size ≤ w'.heap.size) (k : ∀ g, B ≤ g → g < w.heap.size → w'.heap[g]? = w.heap[g]?) : OwnT B' w' L ob := by
  obtain ⟨lo, hi, h1, h2, h3⟩ := h
  refine ⟨lo, hi, fun i z hz => ?_, h2, h3⟩
  obtain ⟨q1, q2, q3⟩ := h1 i z hz
  exact ⟨by omega, by omega, q3.blk (fun g a c => k g (by omega) (by omega))⟩
set_option maxHeartbeats 8000000 in
theorem im_rgraph {b : Nat} {p : Option Addr} {c : Nat} {M : List UInt8} {k : Nat} {lost : Bool} {W : World} (h : RI b p c M k lost W) :
    Calls Try.prog 42 #[.pointer (some ⟨b, 0, none⟩)] W (RG9 b p c M k lost W) := by
  obtain ⟨w1, hw1⟩ : ∃ w1, w1 = W.alloc (.cells #[.int .i64 0, .int .i64 0, .string ⟨#[]⟩, .int .i64 0, .slice none 0 0] 44) := ⟨_, rfl⟩
  have k1 : Kb 0 W w1 := by rw [hw1]; exact kb_alloc _ _ _
  have z1 : w1.heap.size = W.heap.size + 1 := by rw [hw1, World.size_alloc]
  have b1 : w1.heap[W.heap.size]? = some (.cells #[.int .i64 0, .int .i64 0, .string ⟨#[]⟩, .int .i64 0, .slice none 0 0] 44 (0, 0)) := by rw [hw1]; exact alloc_new _ _ _
  have HB := im_rcount (h.kb k1)
  have HW1 : Hid (w1 = W.alloc (.cells #[.int .i64 0, .int .i64 0, .string ⟨#[]⟩, .int .i64 0, .slice none 0 0] 44)) := hw1
  have HH : Hid (Kb 0 W w1 ∧ w1.heap.size = W.heap.size + 1 ∧ w1.heap[W.heap.size]? = some (.cells #[.int .i64 0, .int .i64 0, .string ⟨#[]⟩, .int .i64 0, .slice none 0 0] 44 (0, 0)) ∧ RI b p c M k lost W) := (⟨k1, z1, b1, h⟩ : _ ∧ _)
  clear h hw1 k1 z1 b1
  go_enter Try.func42, Try.ntmps42
  go_upto_region 1 with fail
  rw [← (show w1 = _ from HW1)]
  clear HW1
  go_wp2_with fail
  refine HB.mono ?_
  rintro e w2 ⟨v2, k1, l1, rfl, a1, a2, a3, cnt, rfl, a4, a5, a6, a7⟩
  clear HB
  have HB := im_rval a1
  have HA : Hid (RI b p c M k1 l1 w2 ∧ k ≤ k1 ∧ Kz b w1 w2 ∧ Rn cnt ∧ (l1 = false → k < k1) ∧ (lost = true → l1 = true) ∧ ∀ (y : Nat) rest, lost = false → y ≤ 9223372036854775807 → M.drop k = vb y ++ rest → cnt = (y : Int) ∧ k1 = k + (vb y).length ∧ l1 = false) := (⟨a1, a2, a3, a4, a5, a6, a7⟩ : _ ∧ _)
  clear a1 a2 a3 a4 a5 a6 a7
  go_wp2_with fail
  refine HB.mono ?_
  rintro e w3 ⟨a, k2, l2, rfl, c1, c2, c3, c4, c5, c6, c7⟩
  clear HB
  have HB := rl_thing c1 600 (by omega) cnt
  have HC : Hid (RI b p c M k2 l2 w3 ∧ k1 ≤ k2 ∧ Kg b w2 w3 ∧ Rv9 a ∧ (l2 = false → k1 < k2) ∧ (l1 = true → l2 = true) ∧ ∀ (y : Gv) rest, l1 = false → Wv y → M.drop k1 = v8 y ++ rest → a = y ∧ k2 = k1 + (v8 y).length ∧ l2 = false) := (⟨c1, c2, c3, c4, c5, c6, c7⟩ : _ ∧ _)
  clear c1 c2 c3 c4 c5 c6 c7
  go_wp2_with fail
  refine HB.mono ?_
  rintro e w4 ⟨v4, k', l', L, rfl, d1, d2, d3, d4, d4b, d5, d6, d7, d8, d9⟩
  clear HB
  obtain ⟨ad, cap, rfl⟩ := own_shape d4
  obtain ⟨kb1, z1, b1, h0⟩ := (show Kb 0 W w1 ∧ w1.heap.size = W.heap.size + 1 ∧ w1.heap[W.heap.size]? = some (.cells #[.int .i64 0, .int .i64 0, .string ⟨#[]⟩, .int .i64 0, .slice none 0 0] 44 (0, 0)) ∧ RI b p c M k lost W from HH)
  obtain ⟨a1, a2, a3, a4, a5, a6, a7⟩ := (show RI b p c M k1 l1 w2 ∧ k ≤ k1 ∧ Kz b w1 w2 ∧ Rn cnt ∧ (l1 = false → k < k1) ∧ (lost = true → l1 = true) ∧ ∀ (y : Nat) rest, lost = false → y ≤ 9223372036854775807 → M.drop k = vb y ++ rest → cnt = (y : Int) ∧ k1 = k + (vb y).length ∧ l1 = false from HA)
  obtain ⟨c1, c2, c3, c4, c5, c6, c7⟩ := (show RI b p c M k2 l2 w3 ∧ k1 ≤ k2 ∧ Kg b w2 w3 ∧ Rv9 a ∧ (l2 = false → k1 < k2) ∧ (l1 = true → l2 = true) ∧ ∀ (y : Gv) rest, l1 = false → Wv y → M.drop k1 = v8 y ++ rest → a = y ∧ k2 = k1 + (v8 y).length ∧ l2 = false from HC)
  have hbl := h0.lt
  have z2 : w2.heap.size = W.heap.size + 1 := by rw [a3.size, z1]
  have z3 := c3.size
  have b2 : w2.heap[W.heap.size]? = some (.cells #[.int .i64 0, .int .i64 0, .string ⟨#[]⟩, .int .i64 0, .slice none 0 0] 44 (0, 0)) := (a3.block _ (by omega)).trans b1
  have b3 : w3.heap[W.heap.size]? = some (.cells #[.int .i64 0, .int .i64 0, .string ⟨#[]⟩, .int .i64 0, .slice none 0 0] 44 (0, 0)) := (c3.block _ (by omega) (by omega)).trans b2
  have b4 : w4.heap[W.heap.size]? = some (.cells #[.int .i64 0, .int .i64 0, .string ⟨#[]⟩, .int .i64 0, .slice none 0 0] 44 (0, 0)) := (d3.block _ (by omega) (by omega)).trans b3
  have kg4 : Kg b W w4 := (((Kg.of_kb kb1).trans a3.kg).trans c3).trans d3
  have z4 := d3.size
  have s0 : w4.cell? ⟨W.heap.size, 0, none⟩ = some (.int .i64 0) := cell_of b4 rfl
  have s1 : w4.cell? ⟨W.heap.size, 1, none⟩ = some (.int .i64 0) := cell_of b4 rfl
  have s2 : w4.cell? ⟨W.heap.size, 2, none⟩ = some (.string ⟨#[]⟩) := cell_of b4 rfl
  have s3 : w4.cell? ⟨W.heap.size, 3, none⟩ = some (.int .i64 0) := cell_of b4 rfl
  have s4' : w4.cell? ⟨W.heap.size, 4, none⟩ = some (.slice none 0 0) := cell_of b4 rfl
  have sf : ∀ j, w4.frozen? ⟨W.heap.size, j, none⟩ = false := fun j => frozen_of b4
  obtain ⟨WF, hWF⟩ : ∃ WF, WF = (s4 w4 W.heap.size a.k a.m a.x a.r).setCell ⟨W.heap.size, 4, none⟩ (.slice ad L.length cap) := ⟨_, rfl⟩
  have bF : WF.heap[W.heap.size]? = some (.cells #[.int .i64 a.k, .int .i64 a.m, .string a.x, .int .i64 a.r, .slice ad L.length cap] 44 (0, 0)) := by rw [hWF, set_known _ (s4_known b4 a.k a.m a.x a.r)]; rfl
  have e0 : WF.cell? ⟨W.heap.size, 0, none⟩ = some (.int .i64 a.k) := cell_of bF rfl
  have e1 : WF.cell? ⟨W.heap.size, 1, none⟩ = some (.int .i64 a.m) := cell_of bF rfl
  have e2 : WF.cell? ⟨W.heap.size, 2, none⟩ = some (.string a.x) := cell_of bF rfl
  have e3 : WF.cell? ⟨W.heap.size, 3, none⟩ = some (.int .i64 a.r) := cell_of bF rfl
  have e4 : WF.cell? ⟨W.heap.size, 4, none⟩ = some (.slice ad L.length cap) := cell_of bF rfl
  have hfr : ∀ q, q ≠ W.heap.size → WF.heap[q]? = w4.heap[q]? := fun q hq => by rw [hWF, Below.heap_setCell _ _ _ _ hq, s4_far _ _ _ _ _ hq]
  have hzF : WF.heap.size = w4.heap.size := by rw [hWF, World.size_setCell, s4_size]
  have kgF : Kg b W WF := ⟨by rw [hWF]; exact kg4.os, by rw [hWF]; exact kg4.output, by rw [hzF]; exact kg4.size, fun q h1 h2 => (hfr q (by omega)).trans (kg4.block q h1 h2)⟩
  have HF : Hid (RG9 b p c M k lost W (.returned (grv a (.slice ad L.length cap))) WF) := (⟨a, _, L, k', l', rfl, h0.kg kgF ((hfr b (by omega)).trans d1.blk) d1.le, by omega, kgF, ownsRow_mono9 (rowBlk9 d4 (fun g e => hfr g (by have := (d4.lt g e).1; omega))) (by omega), d4b.mono (by omega) (by omega) (fun g h1 h2 => hfr g (by omega)), d5, c4, d6, fun e => by
      have e2 := nlost d7 e
      have := c5 e2
      have := d8 e
      omega, fun e => d7 (c6 (a6 e)), fun y ys rest el hy hys hlen hm => by
      unfold g8 at hm ⊢
      rw [List.append_assoc, List.append_assoc] at hm
      obtain ⟨q1, q2, q3⟩ := a7 ys.length _ el (by omega) hm
      have hm2 := drop_app hm
      rw [← q2] at hm2
      obtain ⟨r1, r2, r3⟩ := c7 y _ q3 hy hm2
      have hm3 := drop_app hm2
      rw [← r2] at hm3
      obtain ⟨g1, g2, g3⟩ := d9 ys rest r3 hys q1 hlen hm3
      exact ⟨r1, g1, by rw [g2, r2, q2, List.length_append, List.length_append]; omega, g3⟩⟩ : RG9 b p c M k lost W _ WF)
  unfold s4 at hWF
  have HWF : Hid (WF = _) := hWF
  clear d1 d2 d3 d4 d4b d5 d6 d7 d8 d9 kb1 z1 b1 h0 a1 a2 a3 a4 a5 a6 a7 c1 c2 c3 c4 c5 c6 c7 hbl z2 z3 z4 b2 b3 b4 kg4 hWF bF hfr hzF kgF HH HA HC
  go_wp2_with fail
  rw [← (show WF = _ from HWF)]
  clear HWF
  refine bodyPost_ret (by simp [results, Try.results42, go_sem, e0, e1, e2, e3, e4]; rfl) rfl ?_
  exact HF
end Go.Proofs.Ytamcnmnaadpfoaa.Fo
