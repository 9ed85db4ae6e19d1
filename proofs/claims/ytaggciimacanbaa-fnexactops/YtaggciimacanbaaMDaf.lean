import Derived.Test.YtaggciimacanbaaMDae
namespace Go.Proofs.Ytaggciimacanbaa.Fo
open Go.ChangeShapes Go.WideShapes Go.ChangeAt Go.RowKit
set_option linter.unusedVariables false
set_option maxRecDepth 100000
/-- a disk: its blocks, and the writes that wait -/
structure Dd where
  n : Nat
  B : Nat → Ed
  m : Nat
  Q : Nat → Ed
/-- the rows of a disk, none of their blocks before b -/
def RowD (b : Nat) (W : World) (v1 v2 : Value) (D : Dd) : Prop := RowE 1 b W v1 D.n D.B ∧ RowE 2 b W v2 D.m D.Q
theorem RowD.keep {b : Nat} {W W' : World} {v1 v2 : Value} {D : Dd} (h : RowD b W v1 v2 D) (k : Kb b W W') : RowD b W' v1 v2 D := ⟨h.1.keep (.inl rfl) k, h.2.keep (.inr (.inl rfl)) k⟩
theorem RowD.mono {b c : Nat} {W : World} {v1 v2 : Value} {D : Dd} (h : RowD b W v1 v2 D) (hc : c ≤ b) : RowD c W v1 v2 D := ⟨h.1.mono hc, h.2.mono hc⟩
def dsz (D : Dd) : Nat := (D.n + sm (fun i => (D.B i).c) D.n) + (D.m + sm (fun i => (D.Q i).c) D.m)
def dmk (D : Dd) : Nat := sm (mks 1 D.B) D.n + sm (mks 2 D.Q) D.m
/-- bounds -/
structure BdD (D : Dd) : Prop where
  hn : D.n ≤ 1048576
  hB : ∀ i, i < D.n → (D.B i).c ≤ 1048576
  hm : D.m ≤ 1048576
  hQ : ∀ i, i < D.m → (D.Q i).c ≤ 1048576
  hs : dmk D ≤ 80000000
theorem sm_add (f : Nat → Nat) : ∀ n, sm (fun i => 2 - 1 + f i) n = n + sm f n
  | 0 => rfl
  | n + 1 => by
    show sm (fun i => 2 - 1 + f i) n + (2 - 1 + f n) = n + 1 + (sm f n + f n)
    rw [sm_add f n]; omega
theorem sm_zero (f : Nat → Nat) : ∀ n, sm (fun i => 1 - 1 + f i) n = sm f n
  | 0 => rfl
  | n + 1 => by
    show sm (fun i => 1 - 1 + f i) n + (1 - 1 + f n) = sm f n + f n
    rw [sm_zero f n]; omega
theorem bd_of {D : Dd} (h : dsz D ≤ 1048576) : BdD D := by
  unfold dsz at h
  refine ⟨by omega, fun i hi => ?_, by omega, fun i hi => ?_, ?_⟩
  · have := sm_one (fun i => (D.B i).c) hi
    omega
  · have := sm_one (fun i => (D.Q i).c) hi
    omega
  · have e1 : sm (mks 1 D.B) D.n = sm (fun i => (D.B i).c) D.n := sm_zero _ _
    have e2 : sm (mks 2 D.Q) D.m = D.m + sm (fun i => (D.Q i).c) D.m := sm_add _ _
    unfold dmk; omega
/-- a disk in blocks of its own, between L and H -/
def OwD (L H : Nat) (W : World) (v1 v2 : Value) (D : Dd) : Prop := ∃ M g V G g' V' G', OwE 1 L M W v1 D.n D.B g V G ∧ OwE 2 M H W v2 D.m D.Q g' V' G' ∧ L ≤ M ∧ M ≤ H
theorem OwD.block {L H : Nat} {W W' : World} {v1 v2 : Value} {D : Dd} (h : OwD L H W v1 v2 D) (hb : ∀ q, L ≤ q → q < H → W'.heap[q]? = W.heap[q]?) : OwD L H W' v1 v2 D := by
  obtain ⟨M, g, V, G, g', V', G', h1, h2, h3, h4⟩ := h
  exact ⟨M, g, V, G, g', V', G', h1.block (fun q a b => hb q a (by omega)), h2.block (fun q a b => hb q (by omega) b), h3, h4⟩
theorem OwD.wide {L H L' H' : Nat} {W : World} {v1 v2 : Value} {D : Dd} (h : OwD L H W v1 v2 D) (hL : L' ≤ L) (hH : H ≤ H') : OwD L' H' W v1 v2 D := by
  obtain ⟨M, g, V, G, g', V', G', h1, h2, h3, h4⟩ := h
  exact ⟨M, g, V, G, g', V', G', h1.wide hL (Nat.le_refl _), h2.wide (Nat.le_refl _) hH, by omega, by omega⟩
theorem OwD.rowD {L H : Nat} {W : World} {v1 v2 : Value} {D : Dd} (h : OwD L H W v1 v2 D) : RowD L W v1 v2 D := by
  obtain ⟨M, g, V, G, g', V', G', h1, h2, h3, h4⟩ := h
  exact ⟨h1.rowE (.inl rfl), (h2.rowE (.inr (.inl rfl))).mono h3⟩
theorem OwD.shape {L H : Nat} {W : World} {v1 v2 : Value} {D : Dd} (h : OwD L H W v1 v2 D) : ∃ p1 c1 p2 c2, v1 = .slice p1 D.n c1 ∧ v2 = .slice p2 D.m c2 := by
  obtain ⟨M, g, V, G, g', V', G', h1, h2, _⟩ := h
  obtain ⟨p1, c1, e1, _⟩ := h1.sl
  obtain ⟨p2, c2, e2, _⟩ := h2.sl
  exact ⟨p1, c1, p2, c2, e1, e2⟩
/-- such a disk, marked from k on -/
def MdD (L H : Nat) (W : World) (v1 v2 : Value) (D : Dd) (k : Int) : Prop := ∃ M g V G g' V' G', MdE 1 L M W v1 D.n D.B g V G k ∧ MdE 2 M H W v2 D.m D.Q g' V' G' (k + (sm (mks 1 D.B) D.n : Int)) ∧ L ≤ M ∧ M ≤ H
theorem MdD.block {L H : Nat} {W W' : World} {v1 v2 : Value} {D : Dd} {k : Int} (h : MdD L H W v1 v2 D k) (hb : ∀ q, L ≤ q → q < H → W'.heap[q]? = W.heap[q]?) : MdD L H W' v1 v2 D k := by
  obtain ⟨M, g, V, G, g', V', G', h1, h2, h3, h4⟩ := h
  exact ⟨M, g, V, G, g', V', G', h1.block (fun q a b => hb q a (by omega)), h2.block (fun q a b => hb q (by omega) b), h3, h4⟩
theorem Kq.wide {S T : Nat → Prop} {a w : World} (h : Kq S a w) (hS : ∀ q, S q → T q) : Kq T a w := ⟨h.os, h.tape, h.output, h.size, fun k h1 h2 => h.block k h1 (fun s => h2 (hS k s))⟩
theorem kq_alloc1 (S : Nat → Prop) (w : World) (o : Obj) : Kq S w (w.alloc o) := ⟨rfl, rfl, rfl, by rw [World.size_alloc]; omega, fun k hk _ => (kb_alloc 0 w o).block k (Nat.zero_le _) hk⟩
theorem two_newD (w : World) (a b : Array Value) (t1 t2 : TypeId) (W : World) (h : W = (w.alloc (.cells a t1)).alloc (.cells b t2)) : W.heap[w.heap.size]? = some (.cells a t1 (0, 0)) ∧ W.heap[w.heap.size + 1]? = some (.cells b t2 (0, 0)) ∧ W.heap.size = w.heap.size + 2 ∧ Kb 0 w W := by
  subst h
  have e1 : (w.alloc (.cells a t1)).heap.size = w.heap.size + 1 := World.size_alloc _ _
  refine ⟨?_, ?_, by rw [World.size_alloc, e1], kb_alloc2 _ _ _ _⟩
  · rw [(kb_alloc 0 _ _).block _ (Nat.zero_le _) (by omega)]
    exact alloc_new _ _ _
  · rw [← e1]
    exact alloc_new _ _ _
set_option maxHeartbeats 8000000 in
theorem sz_disk {v1 v2 : Value} {D : Dd} (w : World) (l : Int) (ha : RowD 0 w v1 v2 D) (hn : (D.n : Int) < 140737488355328) (hB : ∀ i, i < D.n → ((D.B i).c : Int) < 140737488355328) (hm : (D.m : Int) < 140737488355328) (hQ : ∀ i, i < D.m → ((D.Q i).c : Int) < 140737488355328) (hl0 : 0 ≤ l) (hl : l ≤ 1048576) :
    Calls Try.prog 9 #[.agg #[v1, v2], .int .i64 l] w (Szd (dsz D) l w) := by
  obtain ⟨ha1, ha2⟩ := ha
  obtain ⟨p1, c1, rfl, -⟩ := id ha1
  obtain ⟨p2, c2, rfl, -⟩ := id ha2
  obtain ⟨w2, hw2⟩ : ∃ w2, w2 = w.alloc (.cells #[.slice p1 D.n c1, .slice p2 D.m c2] 25) := ⟨_, rfl⟩
  have k2 : Kb 0 w w2 := by rw [hw2]; exact kb_alloc _ _ _
  have b2 : w2.heap[w.heap.size]? = some (.cells #[.slice p1 D.n c1, .slice p2 D.m c2] 25 (0, 0)) := by rw [hw2]; exact alloc_new _ _ _
  have z2 : w.heap.size < w2.heap.size := by rw [hw2]; simp
  have u0 : w2.cell? ⟨w.heap.size, 0, none⟩ = some (.slice p1 D.n c1) := cell_of b2 rfl
  have u1 : w2.cell? ⟨w.heap.size, 1, none⟩ = some (.slice p2 D.m c2) := cell_of b2 rfl
  have HV := sz_row1 w2 l (ha1.keep (.inl rfl) k2) hn hB hl0 hl
  have HT : Hid (∀ W (l : Int), Kb 0 w W → 0 ≤ l → l ≤ 1048576 → Calls Try.prog 42 #[.slice p2 D.m c2, .int .i64 l] W (Szd (D.m + sm (fun i => (D.Q i).c) D.m) l W)) := (fun W l k q0 q1 => sz_row2 W l (ha2.keep (.inr (.inl rfl)) k) hm hQ q0 q1 : ∀ W (l : Int), _)
  have HZ : Hid (dsz D = (D.n + sm (fun i => (D.B i).c) D.n) + (D.m + sm (fun i => (D.Q i).c) D.m)) := (rfl : dsz D = _)
  obtain ⟨d, hd⟩ : ∃ d, d = dsz D := ⟨_, rfl⟩
  rw [← hd] at HZ ⊢
  generalize D.n + sm (fun i => (D.B i).c) D.n = Z1 at *
  generalize D.m + sm (fun i => (D.Q i).c) D.m = Z2 at *
  have HW2 : Hid (w2 = _) := hw2
  have HB : Hid (Kb 0 w w2 ∧ w2.heap[w.heap.size]? = some (.cells #[.slice p1 D.n c1, .slice p2 D.m c2] 25 (0, 0))) := (⟨k2, b2⟩ : _ ∧ _)
  clear hw2 k2 b2 z2 hn hB hm hQ ha1 ha2 hd
  go_enter Try.func9, Try.ntmps9
  go_wp2_with fail
  rw [← (show w2 = _ from HW2)]
  clear HW2
  refine HV.mono ?_
  rintro e w3 ⟨r, rfl, s1, m1, t1, k1⟩
  obtain ⟨k2, b2⟩ := (show _ ∧ _ from HB)
  have k3 := k2.trans k1
  have u3 : w3.cell? ⟨w.heap.size, 1, none⟩ = some (.slice p2 D.m c2) := k1.cell (cell_of b2 rfl)
  have HS : Hid (0 ≤ r → r + (Z1 : Int) ≤ l) := s1
  have HK : Hid (Kb 0 w w3) := k3
  clear k1 k2 b2 HV HB s1 k3 u0 u1
  rcases Int.lt_or_le r 0 with c | c
  · clear HT
    go_wp2_with fail
    go_ret
    exact ⟨-1, rfl, fun h => by omega, by omega, by omega, HK⟩
  have c' : ¬ r < 0 := by omega
  have HC := (show ∀ W (l : Int), Kb 0 w W → 0 ≤ l → l ≤ 1048576 → _ from HT) w3 r HK c (by omega)
  clear HT
  go_wp2_with fail
  refine HC.mono ?_
  rintro e w4 ⟨r2, rfl, s2, m2, t2, k4⟩
  have HK4 : Hid (Kb 0 w w4) := (show Kb 0 w w3 from HK).trans k4
  have HS2 : Hid (0 ≤ r2 → r2 + (Z2 : Int) ≤ r) := s2
  clear k4 HC u3 HK s2
  rcases Int.lt_or_le r2 0 with d' | d'
  · go_wp2_with fail
    go_ret
    exact ⟨-1, rfl, fun h => by omega, by omega, by omega, HK4⟩
  have d'' : ¬ r2 < 0 := by omega
  go_wp2_with fail
  go_ret
  exact ⟨r2, rfl, fun _ => by have := (show 0 ≤ r → r + (Z1 : Int) ≤ l from HS) c; have := (show 0 ≤ r2 → r2 + (Z2 : Int) ≤ r from HS2) d'; have := (show d = _ from HZ); omega, by omega, by omega, HK4⟩
set_option maxHeartbeats 8000000 in
theorem eq_disk {v1 v2 u1 u2 : Value} {D : Dd} (w : World) (ha : RowD 0 w v1 v2 D) (hb : RowD 0 w u1 u2 D) (hd : BdD D) :
    Calls Try.prog 14 #[.agg #[v1, v2], .agg #[u1, u2]] w fun e w' => e = .returned (.bool true) ∧ Kb 0 w w' := by
  obtain ⟨ha1, ha2⟩ := ha
  obtain ⟨hb1, hb2⟩ := hb
  obtain ⟨p1, c1, rfl, -⟩ := id ha1
  obtain ⟨p2, c2, rfl, -⟩ := id ha2
  obtain ⟨p3, c3, rfl, -⟩ := id hb1
  obtain ⟨p4, c4, rfl, -⟩ := id hb2
  obtain ⟨w2, hw2⟩ : ∃ w2, w2 = (w.alloc (.cells #[.slice p1 D.n c1, .slice p2 D.m c2] 30)).alloc (.cells #[.slice p3 D.n c3, .slice p4 D.m c4] 30) := ⟨_, rfl⟩
  obtain ⟨bp, bq, zz, k2⟩ := two_newD w _ _ _ _ w2 hw2
  have HV := eq_row1 w2 (ha1.keep (.inl rfl) k2) (hb1.keep (.inl rfl) k2) hd.hn hd.hB
  have HT : Hid (∀ W, Kb 0 w W → Calls Try.prog 51 #[.slice p2 D.m c2, .slice p4 D.m c4] W fun e w' => e = .returned (.bool true) ∧ Kb 0 W w') := (fun W k => eq_row2 W (ha2.keep (.inr (.inl rfl)) k) (hb2.keep (.inr (.inl rfl)) k) hd.hm hd.hQ : ∀ W, _)
  have u0 : w2.cell? ⟨w.heap.size, 0, none⟩ = some (.slice p1 D.n c1) := cell_of bp rfl
  have u1 : w2.cell? ⟨w.heap.size, 1, none⟩ = some (.slice p2 D.m c2) := cell_of bp rfl
  have v0 : w2.cell? ⟨w.heap.size + 1, 0, none⟩ = some (.slice p3 D.n c3) := cell_of bq rfl
  have HB : Hid (Kb 0 w w2 ∧ w2.heap[w.heap.size]? = some (.cells #[.slice p1 D.n c1, .slice p2 D.m c2] 30 (0, 0)) ∧ w2.heap[w.heap.size + 1]? = some (.cells #[.slice p3 D.n c3, .slice p4 D.m c4] 30 (0, 0))) := (⟨k2, bp, bq⟩ : _ ∧ _)
  have HW2 : Hid (w2 = _) := hw2
  clear hw2 bp bq zz k2 ha1 ha2 hb1 hb2 hd
  go_enter Try.func14, Try.ntmps14
  go_wp2_with fail
  rw [← (show w2 = _ from HW2)]
  clear HW2
  refine HV.mono ?_
  rintro e w3 ⟨rfl, k1⟩
  obtain ⟨k2, bp, bq⟩ := (show _ ∧ _ ∧ _ from HB)
  have k3 := k2.trans k1
  have x0 : w3.cell? ⟨w.heap.size, 1, none⟩ = some (.slice p2 D.m c2) := k1.cell (cell_of bp rfl)
  have x1 : w3.cell? ⟨w.heap.size + 1, 1, none⟩ = some (.slice p4 D.m c4) := k1.cell (cell_of bq rfl)
  have HC := (show ∀ W, Kb 0 w W → _ from HT) w3 k3
  have HK : Hid (Kb 0 w w3) := k3
  clear HV HT HB k1 k2 bp bq k3 u0 u1 v0
  go_wp2_with fail
  refine HC.mono ?_
  rintro e w4 ⟨rfl, k4⟩
  have HF : Hid (Kb 0 w w4) := (show Kb 0 w w3 from HK).trans k4
  clear HC HK k4 x0 x1
  go_wp2_with fail
  go_ret
  exact ⟨rfl, HF⟩
set_option maxHeartbeats 8000000 in
theorem to_disk {v1 v2 : Value} {D : Dd} (w : World) (ha : RowD 0 w v1 v2 D) (hd : BdD D) :
    Calls Try.prog 11 #[.agg #[v1, v2]] w fun e w' => ∃ u1 u2, e = .returned (.agg #[u1, u2]) ∧ OwD w.heap.size w'.heap.size w' u1 u2 D ∧ Kb 0 w w' := by
  obtain ⟨ha1, ha2⟩ := ha
  obtain ⟨p1, c1, rfl, -⟩ := id ha1
  obtain ⟨p2, c2, rfl, -⟩ := id ha2
  obtain ⟨w3, hw3⟩ : ∃ w3, w3 = ((w.alloc (.cells #[.slice p1 D.n c1, .slice p2 D.m c2] 25)).alloc (.cells #[.slice none 0 0, .slice none 0 0] 30)).alloc (.cells #[.slice none 0 0, .slice none 0 0] 30) := ⟨_, rfl⟩
  obtain ⟨b0, b1, b2, z3, k3⟩ := three_new w _ _ _ _ _ _ w3 hw3
  have HV := to_row1 w3 (ha1.keep (.inl rfl) k3) hd.hn hd.hB
  have HT : Hid (∀ W, Kb 0 w W → Calls Try.prog 47 #[.slice p2 D.m c2] W fun e w' => ∃ v g V G, e = .returned v ∧ OwE 2 W.heap.size w'.heap.size w' v D.m D.Q g V G ∧ Kb 0 W w') := (fun W k => to_row2 W (ha2.keep (.inr (.inl rfl)) k) hd.hm hd.hQ : ∀ W, _)
  have u0 : w3.cell? ⟨w.heap.size, 0, none⟩ = some (.slice p1 D.n c1) := cell_of b0 rfl
  have u1 : w3.cell? ⟨w.heap.size, 1, none⟩ = some (.slice p2 D.m c2) := cell_of b0 rfl
  have HB : Hid (w3.heap[w.heap.size]? = some (.cells #[.slice p1 D.n c1, .slice p2 D.m c2] 25 (0, 0)) ∧ w3.heap[w.heap.size + 1]? = some (.cells #[.slice none 0 0, .slice none 0 0] 30 (0, 0)) ∧ w3.heap[w.heap.size + 1 + 1]? = some (.cells #[.slice none 0 0, .slice none 0 0] 30 (0, 0)) ∧ w3.heap.size = w.heap.size + 3 ∧ Kb 0 w w3) := (⟨b0, b1, b2, z3, k3⟩ : _ ∧ _)
  have HW3 : Hid (w3 = _) := hw3
  clear hw3 b0 b1 b2 z3 k3 ha1 ha2 hd
  go_enter Try.func11, Try.ntmps11
  go_upto_region 2 with fail
  rw [← (show w3 = _ from HW3)]
  clear HW3
  go_wp2_with fail
  refine HV.mono ?_
  rintro e x0 ⟨v0, g0, V0, G0, rfl, r0, q0⟩
  obtain ⟨b0, b1, b2, z3, k3⟩ := (show _ ∧ _ ∧ _ ∧ _ ∧ _ from HB)
  have zq := q0.size
  replace b0 := (q0.block _ (Nat.zero_le _) (by omega)).trans b0
  replace b1 := (q0.block _ (Nat.zero_le _) (by omega)).trans b1
  replace b2 := (q0.block _ (Nat.zero_le _) (by omega)).trans b2
  obtain ⟨p3, c3, rfl, -⟩ := id r0.sl
  obtain ⟨y0, hy0⟩ : ∃ y, y = x0.setCell ⟨w.heap.size + 1 + 1, 0, none⟩ (.slice p3 D.n c3) := ⟨_, rfl⟩
  have ky : Kb (w.heap.size + 3) x0 y0 := by rw [hy0]; exact (Kb.refl _ x0).setCell _ (.inl (by show w.heap.size + 1 + 1 < _; omega)) _
  have kw : Kb 0 w y0 := by rw [hy0]; exact (k3.trans q0).setCell _ (.inr (by show _ ≤ w.heap.size + 1 + 1; omega)) _
  have zy : y0.heap.size = x0.heap.size := by rw [hy0]; simp
  have b0y : y0.heap[w.heap.size]? = some (.cells #[.slice p1 D.n c1, .slice p2 D.m c2] 25 (0, 0)) := by rw [hy0, Below.heap_setCell _ _ _ _ (show w.heap.size ≠ w.heap.size + 1 + 1 by omega)]; exact b0
  have b1y : y0.heap[w.heap.size + 1]? = some (.cells #[.slice none 0 0, .slice none 0 0] 30 (0, 0)) := by rw [hy0, Below.heap_setCell _ _ _ _ (show w.heap.size + 1 ≠ w.heap.size + 1 + 1 by omega)]; exact b1
  have b2y : y0.heap[w.heap.size + 1 + 1]? = some (.cells #[.slice p3 D.n c3, .slice none 0 0] 30 (0, 0)) := by rw [hy0]; exact set_known _ b2
  have o0 : x0.cell? ⟨w.heap.size + 1 + 1, 0, none⟩ = some (.slice none 0 0) := cell_of b2 rfl
  have f0 : x0.frozen? ⟨w.heap.size + 1 + 1, 0, none⟩ = false := frozen_of b2
  have HY : Hid (y0 = x0.setCell ⟨w.heap.size + 1 + 1, 0, none⟩ (.slice p3 D.n c3)) := hy0
  have HC := (show ∀ W, Kb 0 w W → _ from HT) y0 kw
  have y1 : y0.cell? ⟨w.heap.size, 1, none⟩ = some (.slice p2 D.m c2) := cell_of b0y rfl
  have HX : Hid (OwE 1 w3.heap.size x0.heap.size y0 (.slice p3 D.n c3) D.n D.B g0 V0 G0 ∧ y0.heap[w.heap.size + 1]? = some (.cells #[.slice none 0 0, .slice none 0 0] 30 (0, 0)) ∧ y0.heap[w.heap.size + 1 + 1]? = some (.cells #[.slice p3 D.n c3, .slice none 0 0] 30 (0, 0)) ∧ Kb 0 w y0 ∧ w3.heap.size = w.heap.size + 3 ∧ y0.heap.size = x0.heap.size ∧ w3.heap.size ≤ x0.heap.size) := (⟨r0.block (fun q h1 h2 => ky.block q (by omega) h2), b1y, b2y, kw, z3, zy, zq⟩ : _ ∧ _)
  clear HV HT HB b0 b1 b2 z3 k3 zq r0 q0 hy0 ky kw zy b0y b1y b2y u0 u1
  go_upto_region 3 with fail
  rw [← (show y0 = _ from HY)]
  clear HY o0 f0
  go_wp2_with fail
  refine HC.mono ?_
  rintro e x1 ⟨v1, g1, V1, G1, rfl, r1, q1⟩
  obtain ⟨r0, b1y, b2y, kw, z3, zy, zq⟩ := (show _ ∧ _ ∧ _ ∧ _ ∧ _ ∧ _ ∧ _ from HX)
  have zq1 := q1.size
  replace b1y := (q1.block _ (Nat.zero_le _) (by omega)).trans b1y
  replace b2y := (q1.block _ (Nat.zero_le _) (by omega)).trans b2y
  obtain ⟨p4, c4, rfl, -⟩ := id r1.sl
  have e0 : x1.cell? ⟨w.heap.size + 1 + 1, 0, none⟩ = some (.slice p3 D.n c3) := cell_of b2y rfl
  have e1 : x1.cell? ⟨w.heap.size + 1 + 1, 1, none⟩ = some (.slice none 0 0) := cell_of b2y rfl
  have fz : x1.frozen? ⟨w.heap.size + 1 + 1, 1, none⟩ = false := frozen_of b2y
  have a0 : x1.cell? ⟨w.heap.size + 1, 0, none⟩ = some (.slice none 0 0) := cell_of b1y rfl
  have a1 : x1.cell? ⟨w.heap.size + 1, 1, none⟩ = some (.slice none 0 0) := cell_of b1y rfl
  have fy : ∀ j, x1.frozen? ⟨w.heap.size + 1, j, none⟩ = false := fun j => frozen_of b1y
  have HE : Hid (Kb 0 w x1 ∧ OwE 1 w3.heap.size x0.heap.size x1 (.slice p3 D.n c3) D.n D.B g0 V0 G0 ∧ OwE 2 x0.heap.size x1.heap.size x1 (.slice p4 D.m c4) D.m D.Q g1 V1 G1 ∧ w3.heap.size = w.heap.size + 3 ∧ w3.heap.size ≤ x0.heap.size ∧ x0.heap.size ≤ x1.heap.size) := (⟨kw.trans q1, r0.block (fun q h1 h2 => q1.block q (Nat.zero_le _) (by omega)), by rw [← zy]; exact r1, z3, zq, by omega⟩ : _ ∧ _)
  clear HC HX r0 b1y b2y kw z3 zy zq zq1 r1 q1 y1
  go_wp2_with fail
  refine bodyPost_ret (by simp [results, Try.results11, go_sem, a0, a1]; rfl) rfl ?_
  obtain ⟨KW, s0, s1, z3, zq, zx⟩ := (show _ ∧ _ ∧ _ ∧ _ ∧ _ ∧ _ from HE)
  clear HE
  have h1 : w.heap.size + 1 + 1 < w.heap.size + 3 ∨ x1.heap.size ≤ w.heap.size + 1 + 1 := .inl (by omega)
  have h2 : w.heap.size + 1 < w.heap.size + 3 ∨ x1.heap.size ≤ w.heap.size + 1 := .inl (by omega)
  have h3 : w.heap.size + 1 + 1 < 0 ∨ w.heap.size ≤ w.heap.size + 1 + 1 := .inr (by omega)
  have h4 : w.heap.size + 1 < 0 ∨ w.heap.size ≤ w.heap.size + 1 := .inr (by omega)
  have hq := (((Kb.refl (w.heap.size + 3) x1).setCell ⟨w.heap.size + 1 + 1, 1, none⟩ h1 (.slice p4 D.m c4)).setCell ⟨w.heap.size + 1, 0, none⟩ h2 (.slice p3 D.n c3)).setCell ⟨w.heap.size + 1, 1, none⟩ h2 (.slice p4 D.m c4)
  have hk := ((KW.setCell ⟨w.heap.size + 1 + 1, 1, none⟩ h3 (.slice p4 D.m c4)).setCell ⟨w.heap.size + 1, 0, none⟩ h4 (.slice p3 D.n c3)).setCell ⟨w.heap.size + 1, 1, none⟩ h4 (.slice p4 D.m c4)
  exact ⟨_, _, rfl, ⟨x0.heap.size, g0, V0, G0, g1, V1, G1, (s0.block (fun q q1 q2 => hq.block q (by omega) (by omega))).wide (by omega) (Nat.le_refl _), (s1.block (fun q q1 q2 => hq.block q (by omega) q2)).wide (Nat.le_refl _) hq.size, by omega, Nat.le_trans zx hq.size⟩, hk⟩
end Go.Proofs.Ytaggciimacanbaa.Fo
