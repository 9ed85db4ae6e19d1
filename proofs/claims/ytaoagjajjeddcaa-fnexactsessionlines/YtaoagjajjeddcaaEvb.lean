import Derived.Test.YtaoagjajjeddcaaEva
namespace Go.Proofs.Ytaoagjajjeddcaa.Fo
open Go.ChangeShapes Go.WideShapes Go.ChangeAt Go.RowKit
set_option linter.unusedVariables false
set_option maxRecDepth 100000
set_option maxHeartbeats 4000000 in
theorem to_bools {va : Value} {n : Nat} {A : Nat → Bool} (w : World) (ha : RowV w va n (fun i => .bool (A i))) (hn : n ≤ 1048576) :
    Calls Try.prog 27 #[va] w fun e w' => ∃ c', e = .returned (.slice (some ⟨w.heap.size, 0, none⟩) n c') ∧ n ≤ c' ∧ OwnR w' (.slice (some ⟨w.heap.size, 0, none⟩) n c') w.heap.size n (fun i => .bool (A i)) ∧ Below w.heap.size w w' ∧ w.heap.size < w'.heap.size := by
  obtain ⟨pa, ca, rfl, ha2⟩ := ha
  have hnI : (n : Int) ≤ 1048576 := by omega
  have hmk := run_make (P := Try.prog) w 29 4 Try.t4 (.bool false) Try.underlying29 (by kernel_rfl) (by kernel_rfl) .i64 .i64 (n : Int) (n : Int) (by omega) (Int.le_refl _) (by show (1 : Int) * (n : Int) ≤ _; omega) (by omega)
  rw [Int.toNat_natCast] at hmk
  obtain ⟨w1, hw1⟩ : ∃ w1, w1 = w.alloc (.cells (madeCells (.bool false : Value).cells (n * Try.t4.size)) 4) := ⟨_, rfl⟩
  rw [← hw1] at hmk
  have c1 : ∀ j, j < n → w1.cell? ⟨w.heap.size, j, none⟩ = some (.bool false) := by intro j hj; rw [hw1]; exact made_cell w _ 4 n rfl j hj
  have f1 : ∀ j, w1.frozen? ⟨w.heap.size, j, none⟩ = false := by intro j; rw [hw1]; exact made_fz _ _ _ _
  have b1 : Below w.heap.size w w1 := by rw [hw1]; exact (Below.refl _ w).alloc (Nat.le_refl _) _
  have l1 : w.heap.size < w1.heap.size := by rw [hw1]; simp
  have HI0 : Hid (MkR w1 w.heap.size n (fun _ => .bool false) (fun i => .bool (A i)) 0 w1) := (⟨Kq.refl _ _, fun i hi => by omega, fun i _ hi => c1 i hi, f1⟩ : MkR w1 w.heap.size n _ _ 0 w1)
  have HA : Hid ((0 < n → ∃ a : Addr, pa = some a ∧ n ≤ ca ∧ ∀ i, i < n → w.cell? (a.add i) = some (.bool (A i))) ∧ Below w.heap.size w w1 ∧ w.heap.size < w1.heap.size) := (⟨ha2, b1, l1⟩ : _ ∧ _ ∧ _)
  clear ha2 b1 c1 f1 hw1 hn l1
  obtain ⟨G, hG⟩ : ∃ G, G = w.heap.size := ⟨_, rfl⟩
  rw [← hG] at hmk HI0 ⊢
  have HG : Hid (G = w.heap.size) := hG
  clear hG
  go_enter Try.func27, Try.ntmps27
  go_wp2_with fail
  go_loopw [4] (fun s4 wr => ∃ i : Nat, s4 = .int .i64 (i : Int) ∧ i ≤ n ∧ Hid (MkR w1 G n (fun _ => .bool false) (fun i => .bool (A i)) i wr)) (fun s4 _ => n - (intOf s4).toNat)
  case atStart => exact ⟨0, rfl, Nat.zero_le _, HI0⟩
  case round =>
    clear HI0 hmk
    obtain ⟨i, rfl, hin, HI⟩ := hrel
    have hI := (show MkR w1 G n (fun _ => .bool false) (fun i => .bool (A i)) i wr from HI)
    have hA := (show (0 < n → ∃ a : Addr, pa = some a ∧ n ≤ ca ∧ ∀ i, i < n → w.cell? (a.add i) = some (.bool (A i))) ∧ Below w.heap.size w w1 ∧ w.heap.size < w1.heap.size from HA)
    rcases Nat.lt_or_ge i n with hi | hi
    · have hiI : (i : Int) < (n : Int) := by omega
      obtain ⟨a, rfl, hca, hra⟩ := hA.1 (by omega)
      have q0 := hra i hi
      have hl := lt_of_cell' q0
      have qa : wr.cell? (a.add i) = some (.bool (A i)) := by
        rw [World.cell?_of_block (w := w1) (hI.kq.block _ (Nat.lt_of_lt_of_le hl hA.2.1.size) (by rw [show G = w.heap.size from HG]; omega)), hA.2.1.cell hl]
        exact q0
      obtain ⟨c, f, hM⟩ := hI.step hi (Below.refl _ _)
      have HM : Hid (MkR w1 G n (fun _ => .bool false) (fun i => .bool (A i)) (i + 1) (wr.setCell ⟨G, i, none⟩ (.bool (A i)))) := hM
      clear hM hI HI hin hA HA hra q0 hl HG
      generalize A i = y at qa HM
      go_wp2_with fail
      go_roundw
      case rel => exact ⟨i + 1, by go_num, by omega, HM⟩
      case measure => simp [intOf]; omega
    · obtain rfl : i = n := by omega
      have HE : Hid (MkR w1 G i (fun _ => .bool false) (fun i => .bool (A i)) i wr ∧ Below w.heap.size w w1 ∧ G = w.heap.size ∧ w.heap.size < w1.heap.size) := (⟨hI, hA.2.1, HG, hA.2.2⟩ : _ ∧ _ ∧ _ ∧ _)
      clear HI hI hA HA HG
      go_wp2_with fail
      go_ret
      obtain ⟨hE, hB, rfl, hL⟩ := (show MkR w1 G i (fun _ => .bool false) (fun i => .bool (A i)) i wr ∧ Below w.heap.size w w1 ∧ G = w.heap.size ∧ w.heap.size < w1.heap.size from HE)
      refine ⟨_, rfl, Nat.le_refl _, ⟨⟨_, _, rfl, fun _ => ⟨rfl, Nat.le_refl _⟩⟩, fun j hj => hE.don j hj, fun _ j => hE.fz j⟩, ?_, Nat.lt_of_lt_of_le hL hE.kq.size⟩
      exact ⟨hE.kq.os.trans hB.os, hE.kq.tape.trans hB.tape, hE.kq.output.trans hB.output, Nat.le_trans hB.size hE.kq.size, fun k hk => (hE.kq.block k (Nat.lt_of_lt_of_le hk hB.size) (by omega)).trans (hB.block k hk)⟩
set_option maxHeartbeats 4000000 in
theorem eq_bools {va vb : Value} {n : Nat} {A : Nat → Bool} (w : World) (ha : RowV w va n (fun i => .bool (A i))) (hb : RowV w vb n (fun i => .bool (A i))) (hn : n ≤ 1048576) :
    Calls Try.prog 31 #[va, vb] w fun e w' => e = .returned (.bool true) ∧ ∃ d, w' = w.drewN d := by
  obtain ⟨pa, ca, rfl, ha2⟩ := ha
  obtain ⟨pb, cb, rfl, hb2⟩ := hb
  have HA : Hid ((0 < n → ∃ a : Addr, pa = some a ∧ n ≤ ca ∧ ∀ i, i < n → w.cell? (a.add i) = some (.bool (A i))) ∧ (0 < n → ∃ a : Addr, pb = some a ∧ n ≤ cb ∧ ∀ i, i < n → w.cell? (a.add i) = some (.bool (A i)))) := (⟨ha2, hb2⟩ : _ ∧ _)
  have hnI : (n : Int) ≤ 1048576 := by omega
  clear ha2 hb2 hn
  go_enter Try.func31, Try.ntmps31
  go_wp2_with fail
  go_loopw [5] (fun s5 wr => ∃ i d : Nat, s5 = .int .i64 (i : Int) ∧ i ≤ n ∧ wr = w.drewN d) (fun s5 _ => n - (intOf s5).toNat)
  case atStart => exact ⟨0, 0, rfl, Nat.zero_le _, rfl⟩
  case round =>
    obtain ⟨i, d, rfl, hin, rfl⟩ := hrel
    rcases Nat.lt_or_ge i n with hi | hi
    · obtain ⟨a, rfl, hca, hra⟩ := HA.1 (by omega)
      obtain ⟨b, rfl, hcb, hrb⟩ := HA.2 (by omega)
      have hiI : (i : Int) < (n : Int) := by omega
      have qa := hra i hi
      have qb := hrb i hi
      clear hra hrb HA hin
      generalize A i = x at *
      go_wp2_with fail
      go_quiet (skip)
      go_wp2_with fail
      go_roundw
      case rel => exact ⟨i + 1, _, by go_num, by omega, rfl⟩
      case measure => simp [intOf]; omega
    · obtain rfl : i = n := by omega
      clear HA
      go_wp2_with fail
      go_ret
      exact ⟨rfl, _, rfl⟩

structure Kz (b : Nat) (W w' : World) : Prop where
  os : w'.os = W.os
  output : w'.output = W.output
  size : w'.heap.size = W.heap.size
  block : ∀ k, k ≠ b → w'.heap[k]? = W.heap[k]?
theorem Kz.set {b : Nat} {W w' : World} (h : Kz b W w') (j : Nat) (v : Value) : Kz b W (w'.setCell ⟨b, j, none⟩ v) :=
  ⟨h.os, h.output, by simp [World.setCell, h.size], fun k hk => (Below.heap_setCell _ _ _ _ hk).trans (h.block k hk)⟩
theorem Kz.refl (b : Nat) (W : World) : Kz b W W := ⟨rfl, rfl, rfl, fun _ _ => rfl⟩
theorem Kz.kb {b : Nat} {a W w' : World} (z : Kz b W w') (k : Kb 0 a W) (h : a.heap.size ≤ b) : Kb 0 a w' := ⟨z.os.trans k.os, z.output.trans k.output, by rw [z.size]; exact k.size, fun q h1 h2 => (z.block q (by omega)).trans (k.block q h1 h2)⟩
theorem two_newE (w : World) (a b : Array Value) (t1 t2 : TypeId) (W : World) (h : W = (w.alloc (.cells a t1)).alloc (.cells b t2)) : W.heap[w.heap.size]? = some (.cells a t1 (0, 0)) ∧ W.heap[w.heap.size + 1]? = some (.cells b t2 (0, 0)) ∧ W.heap.size = w.heap.size + 2 ∧ Kb 0 w W := by
  subst h
  have e1 : (w.alloc (.cells a t1)).heap.size = w.heap.size + 1 := World.size_alloc _ _
  refine ⟨?_, ?_, by rw [World.size_alloc, e1], kb_alloc2 _ _ _ _⟩
  · rw [(kb_alloc 0 _ _).block _ (Nat.zero_le _) (by omega)]
    exact alloc_new _ _ _
  · rw [← e1]
    exact alloc_new _ _ _
theorem ten_set {V : World} {B : Nat} {T : TypeId} {c0 c1 c2 c3 c4 c5 c6 c7 c8 c9 : Value} (x0 x1 x2 x3 x4 x5 x6 x7 x8 x9 : Value) (bq : V.heap[B]? = some (.cells #[c0, c1, c2, c3, c4, c5, c6, c7, c8, c9] T (0, 0))) (WF : World) (hWF : WF = (((((((((V.setCell ⟨B, 0, none⟩ x0).setCell ⟨B, 1, none⟩ x1).setCell ⟨B, 2, none⟩ x2).setCell ⟨B, 3, none⟩ x3).setCell ⟨B, 4, none⟩ x4).setCell ⟨B, 5, none⟩ x5).setCell ⟨B, 6, none⟩ x6).setCell ⟨B, 7, none⟩ x7).setCell ⟨B, 8, none⟩ x8).setCell ⟨B, 9, none⟩ x9) : WF.heap[B]? = some (.cells #[x0, x1, x2, x3, x4, x5, x6, x7, x8, x9] T (0, 0)) ∧ Kz B V WF := by
  have h0 : ((V).setCell ⟨B, 0, none⟩ x0).heap[B]? = some (.cells #[x0, c1, c2, c3, c4, c5, c6, c7, c8, c9] T (0, 0)) := set_known (j := 0) x0 bq
  have h1 : ((((V).setCell ⟨B, 0, none⟩ x0)).setCell ⟨B, 1, none⟩ x1).heap[B]? = some (.cells #[x0, x1, c2, c3, c4, c5, c6, c7, c8, c9] T (0, 0)) := set_known (j := 1) x1 h0
  have h2 : ((((((V).setCell ⟨B, 0, none⟩ x0)).setCell ⟨B, 1, none⟩ x1)).setCell ⟨B, 2, none⟩ x2).heap[B]? = some (.cells #[x0, x1, x2, c3, c4, c5, c6, c7, c8, c9] T (0, 0)) := set_known (j := 2) x2 h1
  have h3 : ((((((((V).setCell ⟨B, 0, none⟩ x0)).setCell ⟨B, 1, none⟩ x1)).setCell ⟨B, 2, none⟩ x2)).setCell ⟨B, 3, none⟩ x3).heap[B]? = some (.cells #[x0, x1, x2, x3, c4, c5, c6, c7, c8, c9] T (0, 0)) := set_known (j := 3) x3 h2
  have h4 : ((((((((((V).setCell ⟨B, 0, none⟩ x0)).setCell ⟨B, 1, none⟩ x1)).setCell ⟨B, 2, none⟩ x2)).setCell ⟨B, 3, none⟩ x3)).setCell ⟨B, 4, none⟩ x4).heap[B]? = some (.cells #[x0, x1, x2, x3, x4, c5, c6, c7, c8, c9] T (0, 0)) := set_known (j := 4) x4 h3
  have h5 : ((((((((((((V).setCell ⟨B, 0, none⟩ x0)).setCell ⟨B, 1, none⟩ x1)).setCell ⟨B, 2, none⟩ x2)).setCell ⟨B, 3, none⟩ x3)).setCell ⟨B, 4, none⟩ x4)).setCell ⟨B, 5, none⟩ x5).heap[B]? = some (.cells #[x0, x1, x2, x3, x4, x5, c6, c7, c8, c9] T (0, 0)) := set_known (j := 5) x5 h4
  have h6 : ((((((((((((((V).setCell ⟨B, 0, none⟩ x0)).setCell ⟨B, 1, none⟩ x1)).setCell ⟨B, 2, none⟩ x2)).setCell ⟨B, 3, none⟩ x3)).setCell ⟨B, 4, none⟩ x4)).setCell ⟨B, 5, none⟩ x5)).setCell ⟨B, 6, none⟩ x6).heap[B]? = some (.cells #[x0, x1, x2, x3, x4, x5, x6, c7, c8, c9] T (0, 0)) := set_known (j := 6) x6 h5
  have h7 : ((((((((((((((((V).setCell ⟨B, 0, none⟩ x0)).setCell ⟨B, 1, none⟩ x1)).setCell ⟨B, 2, none⟩ x2)).setCell ⟨B, 3, none⟩ x3)).setCell ⟨B, 4, none⟩ x4)).setCell ⟨B, 5, none⟩ x5)).setCell ⟨B, 6, none⟩ x6)).setCell ⟨B, 7, none⟩ x7).heap[B]? = some (.cells #[x0, x1, x2, x3, x4, x5, x6, x7, c8, c9] T (0, 0)) := set_known (j := 7) x7 h6
  have h8 : ((((((((((((((((((V).setCell ⟨B, 0, none⟩ x0)).setCell ⟨B, 1, none⟩ x1)).setCell ⟨B, 2, none⟩ x2)).setCell ⟨B, 3, none⟩ x3)).setCell ⟨B, 4, none⟩ x4)).setCell ⟨B, 5, none⟩ x5)).setCell ⟨B, 6, none⟩ x6)).setCell ⟨B, 7, none⟩ x7)).setCell ⟨B, 8, none⟩ x8).heap[B]? = some (.cells #[x0, x1, x2, x3, x4, x5, x6, x7, x8, c9] T (0, 0)) := set_known (j := 8) x8 h7
  have h9 : ((((((((((((((((((((V).setCell ⟨B, 0, none⟩ x0)).setCell ⟨B, 1, none⟩ x1)).setCell ⟨B, 2, none⟩ x2)).setCell ⟨B, 3, none⟩ x3)).setCell ⟨B, 4, none⟩ x4)).setCell ⟨B, 5, none⟩ x5)).setCell ⟨B, 6, none⟩ x6)).setCell ⟨B, 7, none⟩ x7)).setCell ⟨B, 8, none⟩ x8)).setCell ⟨B, 9, none⟩ x9).heap[B]? = some (.cells #[x0, x1, x2, x3, x4, x5, x6, x7, x8, x9] T (0, 0)) := set_known (j := 9) x9 h8
  rw [hWF]
  exact ⟨h9, (((((((((((Kz.refl B V).set 0 x0).set 1 x1).set 2 x2).set 3 x3).set 4 x4).set 5 x5).set 6 x6).set 7 x7).set 8 x8).set 9 x9)⟩
theorem own_kb {W W' : World} {v : Value} {g n : Nat} {A : Nat → Value} (h : OwnR W v g n A) (hb : 0 < n → W'.heap[g]? = W.heap[g]?) : OwnR W' v g n A :=
  ⟨h.sl, fun i hi => (World.cell?_of_block (w := W) (hb (by omega))).trans (h.cell i hi), fun hn i => (World.frozen?_of_block (w := W) (hb hn)).trans (h.fz hn i)⟩
set_option maxHeartbeats 8000000 in
theorem to_event {op n m k f l : Int} {x y z : ByteArray} {pk : Option Addr} {q ck : Nat} {A : Nat → Bool} (w : World) (ha : RowV w (.slice pk q ck) q (fun i => .bool (A i))) (hq : q ≤ 1048576) :
    Calls Try.prog 12 #[.agg #[.int .i64 op, .int .i64 n, .int .i64 m, .string x, .string y, .int .i64 k, .int .i64 f, .int .i64 l, .string z, .slice pk q ck]] w fun e w' => ∃ px cx gx, e = .returned (.agg #[.int .i64 op, .int .i64 n, .int .i64 m, .string x, .string y, .int .i64 k, .int .i64 f, .int .i64 l, .string z, .slice px q cx]) ∧ w.heap.size ≤ gx ∧ gx < w'.heap.size ∧ OwnR w' (.slice px q cx) gx q (fun i => .bool (A i)) ∧ Kb 0 w w' := by
  obtain ⟨w3, hw3⟩ : ∃ w3, w3 = ((w.alloc (.cells #[.int .i64 op, .int .i64 n, .int .i64 m, .string x, .string y, .int .i64 k, .int .i64 f, .int .i64 l, .string z, .slice pk q ck] 31)).alloc (.cells #[.int .i64 0, .int .i64 0, .int .i64 0, .string { data := #[] }, .string { data := #[] }, .int .i64 0, .int .i64 0, .int .i64 0, .string { data := #[] }, .slice none 0 0] 35)).alloc (.cells #[.int .i64 op, .int .i64 n, .int .i64 m, .string x, .string y, .int .i64 0, .int .i64 0, .int .i64 0, .string { data := #[] }, .slice none 0 0] 35) := ⟨_, rfl⟩
  obtain ⟨b0, b1, b2, z3, k3⟩ := three_new w _ _ _ _ _ _ w3 hw3
  have HT := to_stop (k := k) (f := f) (l := l) (s := z) w3
  have HW3 : Hid (w3 = _) := hw3
  have c5 : w3.cell? ⟨w.heap.size, 5, none⟩ = some (.int .i64 k) := cell_of b0 rfl
  have c6 : w3.cell? ⟨w.heap.size, 6, none⟩ = some (.int .i64 f) := cell_of b0 rfl
  have c7 : w3.cell? ⟨w.heap.size, 7, none⟩ = some (.int .i64 l) := cell_of b0 rfl
  have c8 : w3.cell? ⟨w.heap.size, 8, none⟩ = some (.string z) := cell_of b0 rfl
  have HX : Hid (RowV w (.slice pk q ck) q (fun i => .bool (A i)) ∧ q ≤ 1048576) := (⟨ha, hq⟩ : _ ∧ _)
  have H3 : Hid (w3.heap[w.heap.size]? = some (.cells #[.int .i64 op, .int .i64 n, .int .i64 m, .string x, .string y, .int .i64 k, .int .i64 f, .int .i64 l, .string z, .slice pk q ck] 31 (0, 0)) ∧ w3.heap[w.heap.size + 1]? = some (.cells #[.int .i64 0, .int .i64 0, .int .i64 0, .string { data := #[] }, .string { data := #[] }, .int .i64 0, .int .i64 0, .int .i64 0, .string { data := #[] }, .slice none 0 0] 35 (0, 0)) ∧ w3.heap[w.heap.size + 1 + 1]? = some (.cells #[.int .i64 op, .int .i64 n, .int .i64 m, .string x, .string y, .int .i64 0, .int .i64 0, .int .i64 0, .string { data := #[] }, .slice none 0 0] 35 (0, 0)) ∧ w3.heap.size = w.heap.size + 3 ∧ Kb 0 w w3) := (⟨b0, b1, b2, z3, k3⟩ : _ ∧ _)
  clear b0 b1 b2 z3 k3 hw3 ha hq
  go_enter Try.func12, Try.ntmps12
  go_upto_region 7 with fail
  rw [← (show w3 = _ from HW3)]
  clear HW3
  go_wp2_with fail
  refine HT.mono ?_
  rintro e w4 ⟨rfl, k4⟩
  obtain ⟨b0, b1, b2, z3, k3⟩ := (show _ ∧ _ ∧ _ ∧ _ ∧ _ from H3)
  have zk := k4.size
  replace b0 := (k4.block _ (Nat.zero_le _) (by omega)).trans b0
  replace b1 := (k4.block _ (Nat.zero_le _) (by omega)).trans b1
  replace b2 := (k4.block _ (Nat.zero_le _) (by omega)).trans b2
  obtain ⟨y0, hy0⟩ : ∃ y, y = (((w4.setCell ⟨w.heap.size + 1 + 1, 5, none⟩ (.int .i64 k)).setCell ⟨w.heap.size + 1 + 1, 6, none⟩ (.int .i64 f)).setCell ⟨w.heap.size + 1 + 1, 7, none⟩ (.int .i64 l)).setCell ⟨w.heap.size + 1 + 1, 8, none⟩ (.string z) := ⟨_, rfl⟩
  have kz : Kz (w.heap.size + 1 + 1) w4 y0 := by rw [hy0]; exact ((((Kz.refl _ w4).set 5 _).set 6 _).set 7 _).set 8 _
  have b2y : y0.heap[w.heap.size + 1 + 1]? = some (.cells #[.int .i64 op, .int .i64 n, .int .i64 m, .string x, .string y, .int .i64 k, .int .i64 f, .int .i64 l, .string z, .slice none 0 0] 35 (0, 0)) := by rw [hy0, set_known _ (set_known _ (set_known _ (set_known _ b2)))]; rfl
  have b0y := (kz.block _ (show w.heap.size ≠ w.heap.size + 1 + 1 by omega)).trans b0
  have b1y := (kz.block _ (show w.heap.size + 1 ≠ w.heap.size + 1 + 1 by omega)).trans b1
  have kw : Kb 0 w y0 := kz.kb (k3.trans k4) (by omega)
  have zy := kz.size
  have o5 : w4.cell? ⟨w.heap.size + 1 + 1, 5, none⟩ = some (.int .i64 0) := cell_of b2 rfl
  have o6 : w4.cell? ⟨w.heap.size + 1 + 1, 6, none⟩ = some (.int .i64 0) := cell_of b2 rfl
  have o7 : w4.cell? ⟨w.heap.size + 1 + 1, 7, none⟩ = some (.int .i64 0) := cell_of b2 rfl
  have o8 : w4.cell? ⟨w.heap.size + 1 + 1, 8, none⟩ = some (.string { data := #[] }) := cell_of b2 rfl
  have f5 : ∀ j, w4.frozen? ⟨w.heap.size + 1 + 1, j, none⟩ = false := fun j => frozen_of b2
  have HY : Hid (y0 = _) := hy0
  have d9 : y0.cell? ⟨w.heap.size, 9, none⟩ = some (.slice pk q ck) := cell_of b0y rfl
  have HC := to_bools y0 (show RowV y0 (.slice pk q ck) q (fun i => .bool (A i)) from ((show RowV w (.slice pk q ck) q (fun i => .bool (A i)) ∧ _ from HX).1.rowB.keep kw).row) (show _ ∧ _ from HX).2
  have HZ : Hid (y0.heap[w.heap.size + 1]? = some (.cells #[.int .i64 0, .int .i64 0, .int .i64 0, .string { data := #[] }, .string { data := #[] }, .int .i64 0, .int .i64 0, .int .i64 0, .string { data := #[] }, .slice none 0 0] 35 (0, 0)) ∧ y0.heap[w.heap.size + 1 + 1]? = some (.cells #[.int .i64 op, .int .i64 n, .int .i64 m, .string x, .string y, .int .i64 k, .int .i64 f, .int .i64 l, .string z, .slice none 0 0] 35 (0, 0)) ∧ w.heap.size + 3 ≤ y0.heap.size ∧ Kb 0 w y0) := (⟨b1y, b2y, by omega, kw⟩ : _ ∧ _)
  clear HT H3 b0 b1 b2 z3 k3 k4 zk hy0 kz b2y b0y b1y kw zy c5 c6 c7 c8 HX
  go_upto_region 8 with fail
  rw [← (show y0 = _ from HY)]
  clear HY o5 o6 o7 o8 f5
  go_wp2_with fail
  refine HC.mono ?_
  rintro e w5 ⟨cx, rfl, hcx, ow, bl, lt5⟩
  obtain ⟨b1, b2, z3, kw⟩ := (show _ ∧ _ ∧ _ ∧ _ from HZ)
  obtain ⟨G, hG⟩ : ∃ G, G = y0.heap.size := ⟨_, rfl⟩
  rw [← hG] at ow lt5 ⊢
  replace b1 := (bl.block _ (by omega)).trans b1
  replace b2 := (bl.block _ (by omega)).trans b2
  have k5 : Kb 0 w w5 := ⟨bl.os.trans kw.os, bl.output.trans kw.output, Nat.le_trans kw.size bl.size, fun j h1 h2 => (bl.block j (by omega)).trans (kw.block j h1 h2)⟩
  obtain ⟨y1, hy1⟩ : ∃ y, y = w5.setCell ⟨w.heap.size + 1 + 1, 9, none⟩ (.slice (some ⟨G, 0, none⟩) q cx) := ⟨_, rfl⟩
  have kz : Kz (w.heap.size + 1 + 1) w5 y1 := by rw [hy1]; exact (Kz.refl _ w5).set 9 _
  have b2y : y1.heap[w.heap.size + 1 + 1]? = some (.cells #[.int .i64 op, .int .i64 n, .int .i64 m, .string x, .string y, .int .i64 k, .int .i64 f, .int .i64 l, .string z, .slice (some ⟨G, 0, none⟩) q cx] 35 (0, 0)) := by rw [hy1, set_known _ b2]; rfl
  have b1y := (kz.block _ (show w.heap.size + 1 ≠ w.heap.size + 1 + 1 by omega)).trans b1
  have ky : Kb 0 w y1 := kz.kb k5 (by omega)
  have oy : OwnR y1 (.slice (some ⟨G, 0, none⟩) q cx) G q (fun i => .bool (A i)) := own_kb ow (fun _ => kz.block G (by omega))
  have o9 : w5.cell? ⟨w.heap.size + 1 + 1, 9, none⟩ = some (.slice none 0 0) := cell_of b2 rfl
  have f9 : w5.frozen? ⟨w.heap.size + 1 + 1, 9, none⟩ = false := frozen_of b2
  have g0 : y1.cell? ⟨w.heap.size + 1 + 1, 0, none⟩ = some (.int .i64 op) := cell_of b2y rfl
  have g1 : y1.cell? ⟨w.heap.size + 1 + 1, 1, none⟩ = some (.int .i64 n) := cell_of b2y rfl
  have g2 : y1.cell? ⟨w.heap.size + 1 + 1, 2, none⟩ = some (.int .i64 m) := cell_of b2y rfl
  have g3 : y1.cell? ⟨w.heap.size + 1 + 1, 3, none⟩ = some (.string x) := cell_of b2y rfl
  have g4 : y1.cell? ⟨w.heap.size + 1 + 1, 4, none⟩ = some (.string y) := cell_of b2y rfl
  have g5 : y1.cell? ⟨w.heap.size + 1 + 1, 5, none⟩ = some (.int .i64 k) := cell_of b2y rfl
  have g6 : y1.cell? ⟨w.heap.size + 1 + 1, 6, none⟩ = some (.int .i64 f) := cell_of b2y rfl
  have g7 : y1.cell? ⟨w.heap.size + 1 + 1, 7, none⟩ = some (.int .i64 l) := cell_of b2y rfl
  have g8 : y1.cell? ⟨w.heap.size + 1 + 1, 8, none⟩ = some (.string z) := cell_of b2y rfl
  have g9 : y1.cell? ⟨w.heap.size + 1 + 1, 9, none⟩ = some (.slice (some ⟨G, 0, none⟩) q cx) := cell_of b2y rfl
  have r0 : y1.cell? ⟨w.heap.size + 1, 0, none⟩ = some (.int .i64 0) := cell_of b1y rfl
  have r1 : y1.cell? ⟨w.heap.size + 1, 1, none⟩ = some (.int .i64 0) := cell_of b1y rfl
  have r2 : y1.cell? ⟨w.heap.size + 1, 2, none⟩ = some (.int .i64 0) := cell_of b1y rfl
  have r3 : y1.cell? ⟨w.heap.size + 1, 3, none⟩ = some (.string { data := #[] }) := cell_of b1y rfl
  have r4 : y1.cell? ⟨w.heap.size + 1, 4, none⟩ = some (.string { data := #[] }) := cell_of b1y rfl
  have r5 : y1.cell? ⟨w.heap.size + 1, 5, none⟩ = some (.int .i64 0) := cell_of b1y rfl
  have r6 : y1.cell? ⟨w.heap.size + 1, 6, none⟩ = some (.int .i64 0) := cell_of b1y rfl
  have r7 : y1.cell? ⟨w.heap.size + 1, 7, none⟩ = some (.int .i64 0) := cell_of b1y rfl
  have r8 : y1.cell? ⟨w.heap.size + 1, 8, none⟩ = some (.string { data := #[] }) := cell_of b1y rfl
  have r9 : y1.cell? ⟨w.heap.size + 1, 9, none⟩ = some (.slice none 0 0) := cell_of b1y rfl
  have ff : ∀ j, y1.frozen? ⟨w.heap.size + 1, j, none⟩ = false := fun j => frozen_of b1y
  obtain ⟨WF, hWF⟩ : ∃ WF, WF = ((((((((((y1).setCell ⟨w.heap.size + 1, 0, none⟩ (.int .i64 op)).setCell ⟨w.heap.size + 1, 1, none⟩ (.int .i64 n)).setCell ⟨w.heap.size + 1, 2, none⟩ (.int .i64 m)).setCell ⟨w.heap.size + 1, 3, none⟩ (.string x)).setCell ⟨w.heap.size + 1, 4, none⟩ (.string y)).setCell ⟨w.heap.size + 1, 5, none⟩ (.int .i64 k)).setCell ⟨w.heap.size + 1, 6, none⟩ (.int .i64 f)).setCell ⟨w.heap.size + 1, 7, none⟩ (.int .i64 l)).setCell ⟨w.heap.size + 1, 8, none⟩ (.string z)).setCell ⟨w.heap.size + 1, 9, none⟩ (.slice (some ⟨G, 0, none⟩) q cx) := ⟨_, rfl⟩
  obtain ⟨bF, kF⟩ := ten_set _ _ _ _ _ _ _ _ _ _ b1y WF hWF
  have e0 : WF.cell? ⟨w.heap.size + 1, 0, none⟩ = some (.int .i64 op) := cell_of bF rfl
  have e1 : WF.cell? ⟨w.heap.size + 1, 1, none⟩ = some (.int .i64 n) := cell_of bF rfl
  have e2 : WF.cell? ⟨w.heap.size + 1, 2, none⟩ = some (.int .i64 m) := cell_of bF rfl
  have e3 : WF.cell? ⟨w.heap.size + 1, 3, none⟩ = some (.string x) := cell_of bF rfl
  have e4 : WF.cell? ⟨w.heap.size + 1, 4, none⟩ = some (.string y) := cell_of bF rfl
  have e5 : WF.cell? ⟨w.heap.size + 1, 5, none⟩ = some (.int .i64 k) := cell_of bF rfl
  have e6 : WF.cell? ⟨w.heap.size + 1, 6, none⟩ = some (.int .i64 f) := cell_of bF rfl
  have e7 : WF.cell? ⟨w.heap.size + 1, 7, none⟩ = some (.int .i64 l) := cell_of bF rfl
  have e8 : WF.cell? ⟨w.heap.size + 1, 8, none⟩ = some (.string z) := cell_of bF rfl
  have e9 : WF.cell? ⟨w.heap.size + 1, 9, none⟩ = some (.slice (some ⟨G, 0, none⟩) q cx) := cell_of bF rfl
  have HFIN : Hid (w.heap.size ≤ G ∧ G < WF.heap.size ∧ OwnR WF (.slice (some ⟨G, 0, none⟩) q cx) G q (fun i => .bool (A i)) ∧ Kb 0 w WF) := (⟨by have := kw.size; omega, by rw [kF.size, kz.size]; exact lt5, own_kb oy (fun _ => kF.block G (by omega)), kF.kb ky (by omega)⟩ : _ ∧ _)
  have HY1 : Hid (y1 = _) := hy1
  have HWF : Hid (WF = _) := hWF
  clear HC HZ b1 b2 z3 kw hG k5 hy1 kz b2y b1y ky oy hWF kF bF ow bl lt5 hcx d9
  go_upto_region 9 with fail
  rw [← (show y1 = _ from HY1)]
  clear HY1 o9 f9
  go_wp2_with fail
  rw [← (show WF = _ from HWF)]
  clear HWF
  refine bodyPost_ret (by simp [results, Try.results12, go_sem, e0, e1, e2, e3, e4, e5, e6, e7, e8, e9]; rfl) rfl ?_
  exact ⟨_, _, _, rfl, HFIN⟩
set_option maxHeartbeats 8000000 in
theorem eq_stop {k f l : Int} {z : ByteArray} (w : World) :
    Calls Try.prog 30 #[.agg #[.int .i64 k, .int .i64 f, .int .i64 l, .string z], .agg #[.int .i64 k, .int .i64 f, .int .i64 l, .string z]] w fun e w' => e = .returned (.bool true) ∧ Kb 0 w w' := by
  have h1 : (k != k) = false := by simp
  have h2 : (f != f) = false := by simp
  have h3 : (l != l) = false := by simp
  have h4 : (z.toList == z.toList) = true := by simp
  go_enter Try.func30, Try.ntmps30
  go_wp2_with fail
  go_ret
  exact ⟨rfl, kb_alloc2 _ _ _ _⟩
set_option maxHeartbeats 8000000 in
theorem eq_event {op n m k f l : Int} {x y z : ByteArray} {pk : Option Addr} {q ck : Nat} {px : Option Addr} {cx : Nat} {A : Nat → Bool} (w : World) (ha : RowV w (.slice pk q ck) q (fun i => .bool (A i))) (hb : RowV w (.slice px q cx) q (fun i => .bool (A i))) (hq : q ≤ 1048576) :
    Calls Try.prog 14 #[.agg #[.int .i64 op, .int .i64 n, .int .i64 m, .string x, .string y, .int .i64 k, .int .i64 f, .int .i64 l, .string z, .slice pk q ck], .agg #[.int .i64 op, .int .i64 n, .int .i64 m, .string x, .string y, .int .i64 k, .int .i64 f, .int .i64 l, .string z, .slice px q cx]] w fun e w' => e = .returned (.bool true) ∧ Kb 0 w w' := by
  obtain ⟨w2, hw2⟩ : ∃ w2, w2 = (w.alloc (.cells #[.int .i64 op, .int .i64 n, .int .i64 m, .string x, .string y, .int .i64 k, .int .i64 f, .int .i64 l, .string z, .slice pk q ck] 35)).alloc (.cells #[.int .i64 op, .int .i64 n, .int .i64 m, .string x, .string y, .int .i64 k, .int .i64 f, .int .i64 l, .string z, .slice px q cx] 35) := ⟨_, rfl⟩
  obtain ⟨b0, b1, z2, k2⟩ := two_newE w _ _ _ _ w2 hw2
  have c0 : w2.cell? ⟨w.heap.size, 0, none⟩ = some (.int .i64 op) := cell_of b0 rfl
  have c1 : w2.cell? ⟨w.heap.size, 1, none⟩ = some (.int .i64 n) := cell_of b0 rfl
  have c2 : w2.cell? ⟨w.heap.size, 2, none⟩ = some (.int .i64 m) := cell_of b0 rfl
  have c3 : w2.cell? ⟨w.heap.size, 3, none⟩ = some (.string x) := cell_of b0 rfl
  have c4 : w2.cell? ⟨w.heap.size, 4, none⟩ = some (.string y) := cell_of b0 rfl
  have c5 : w2.cell? ⟨w.heap.size, 5, none⟩ = some (.int .i64 k) := cell_of b0 rfl
  have c6 : w2.cell? ⟨w.heap.size, 6, none⟩ = some (.int .i64 f) := cell_of b0 rfl
  have c7 : w2.cell? ⟨w.heap.size, 7, none⟩ = some (.int .i64 l) := cell_of b0 rfl
  have c8 : w2.cell? ⟨w.heap.size, 8, none⟩ = some (.string z) := cell_of b0 rfl
  have c9 : w2.cell? ⟨w.heap.size, 9, none⟩ = some (.slice pk q ck) := cell_of b0 rfl
  have d0 : w2.cell? ⟨w.heap.size + 1, 0, none⟩ = some (.int .i64 op) := cell_of b1 rfl
  have d1 : w2.cell? ⟨w.heap.size + 1, 1, none⟩ = some (.int .i64 n) := cell_of b1 rfl
  have d2 : w2.cell? ⟨w.heap.size + 1, 2, none⟩ = some (.int .i64 m) := cell_of b1 rfl
  have d3 : w2.cell? ⟨w.heap.size + 1, 3, none⟩ = some (.string x) := cell_of b1 rfl
  have d4 : w2.cell? ⟨w.heap.size + 1, 4, none⟩ = some (.string y) := cell_of b1 rfl
  have d5 : w2.cell? ⟨w.heap.size + 1, 5, none⟩ = some (.int .i64 k) := cell_of b1 rfl
  have d6 : w2.cell? ⟨w.heap.size + 1, 6, none⟩ = some (.int .i64 f) := cell_of b1 rfl
  have d7 : w2.cell? ⟨w.heap.size + 1, 7, none⟩ = some (.int .i64 l) := cell_of b1 rfl
  have d8 : w2.cell? ⟨w.heap.size + 1, 8, none⟩ = some (.string z) := cell_of b1 rfl
  have d9 : w2.cell? ⟨w.heap.size + 1, 9, none⟩ = some (.slice px q cx) := cell_of b1 rfl
  have h1 : ∀ i : Int, (i != i) = false := fun i => by simp
  have h4 : ∀ z : ByteArray, (z.toList == z.toList) = true := fun z => by simp
  have HS := eq_stop (k := k) (f := f) (l := l) (z := z) w2
  have HE : Hid (∀ W, Kb 0 w W → Calls Try.prog 31 #[.slice pk q ck, .slice px q cx] W fun e w' => e = .returned (.bool true) ∧ ∃ d, w' = W.drewN d) := (fun W kk => eq_bools W ((ha.rowB.keep kk).row) ((hb.rowB.keep kk).row) hq : ∀ W, _)
  have HW2 : Hid (w2 = _) := hw2
  have HK2 : Hid (Kb 0 w w2) := k2
  clear hw2 b0 b1 z2 k2 ha hb hq
  go_enter Try.func14, Try.ntmps14
  go_upto_region 1 with fail
  rw [← (show w2 = _ from HW2)]
  clear HW2
  go_wp2_with fail
  refine HS.mono ?_
  rintro e w3 ⟨rfl, k3⟩
  have u9 := k3.cell c9
  have v9 := k3.cell d9
  have HE3 := (show ∀ W, _ from HE) w3 ((show Kb 0 w w2 from HK2).trans k3)
  have HK3 : Hid (Kb 0 w w3) := (show Kb 0 w w2 from HK2).trans k3
  clear HS HE HK2 k3 c0 c1 c2 c3 c4 c5 c6 c7 c8 c9 d0 d1 d2 d3 d4 d5 d6 d7 d8 d9
  go_wp2_with fail
  refine HE3.mono ?_
  rintro e w4 ⟨rfl, d, hw4⟩
  have HF : Hid (Kb 0 w w4) := by rw [hw4]; exact (show Kb 0 w w3 from HK3).drewN d
  clear HE3 hw4 u9 v9
  go_wp2_with fail
  go_ret
  exact ⟨rfl, HF⟩
end Go.Proofs.Ytaoagjajjeddcaa.Fo
