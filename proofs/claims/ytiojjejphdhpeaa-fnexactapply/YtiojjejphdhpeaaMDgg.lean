import Derived.Test.YtiojjejphdhpeaaMDgd
import Derived.Test.YtiojjejphdhpeaaMDef
namespace Go.Proofs.Ytiojjejphdhpeaa.Fo
open Go.ChangeShapes Go.WideShapes Go.ChangeAt Go.RowKit
set_option linter.unusedVariables false
set_option maxRecDepth 100000
set_option linter.unusedSimpArgs false
/-- a disk with one write more that waits -/
def pD (D : Dd) (b : Int) (A : Nat → Int) : Dd := ⟨D.n, D.B, D.m + 1, fun j => if j = D.m then ⟨false, b, 64, A⟩ else D.Q j⟩
theorem cel_ext2 (K : Nat) {F F' : Nat → Ed} (V : Nat → Value) : ∀ n, (∀ j, j < n → F j = F' j) → cel K F V n = cel K F' V n
  | 0, _ => rfl
  | n + 1, h => by rw [cel, cel, cel_ext2 K V n (fun j hj => h j (by omega)), h n (by omega)]
theorem BE.ext {K B : Nat} {ty : TypeId} {W : World} {v : Value} {n : Nat} {F F' : Nat → Ed} {V : Nat → Value} {G : Nat → Nat} (h : BE K B ty W v n F V G) (e : ∀ j, j < n → F j = F' j) : BE K B ty W v n F' V G :=
  ⟨by rw [← cel_ext2 K V n e]; exact h.ro, fun i hi => by rw [← e i hi]; exact h.ow i hi, fun i hi => by rw [← e i hi]; exact h.lo i hi, fun i j hi hj => by rw [← e i hi, ← e j hj]; exact h.di i j hi hj⟩
theorem OwB.push {L : Nat} {W W5 W6 : World} {y1 y2 : Value} {D : Dd} {A : Nat → Int} {vx : Value} {gx : Nat} (h : OwB L W y1 y2 D) (b : Int) (h5 : W5 = W.alloc (.cells #[y1, y2] 30)) (k6 : Kb 0 W5 W6) (ox : OwnR W6 vx gx 64 (ub A)) (lx : W5.heap.size ≤ gx ∧ gx < W6.heap.size) :
    ∃ M CL, (W6.ownsRow M 71 2 y2 D.m CL ∧ M ≤ W6.heap.size ∧ some W.heap.size ≠ y2.ownBlock) ∧
      ∀ (ob : Obj) (W8 : World) (g cap : Nat), W8.ownsRow M 71 2 (.slice (some ⟨g, 0, none⟩) (D.m + 1) cap) (D.m + 1) (CL ++ [.int .i64 b, vx]) → (W6.alloc ob).grownBy W8 y2.ownBlock → (y2.ownBlock = some g ∨ g = W6.heap.size + 1) →
        (W8.cell? ⟨W.heap.size, 0, none⟩ = some y1 ∧ W8.cell? ⟨W.heap.size, 1, none⟩ = some y2 ∧ ∀ j, W8.frozen? ⟨W.heap.size, j, none⟩ = false) ∧
        ∀ W9 : World, W9 = W8.setCell ⟨W.heap.size, 1, none⟩ (.slice (some ⟨g, 0, none⟩) (D.m + 1) cap) → W9.cell? ⟨W.heap.size, 0, none⟩ = some y1 ∧ W9.cell? ⟨W.heap.size, 1, none⟩ = some (.slice (some ⟨g, 0, none⟩) (D.m + 1) cap) ∧ OwD L W9.heap.size W9 y1 (.slice (some ⟨g, 0, none⟩) (D.m + 1) cap) (pD D b A) ∧ ∀ a : World, Kb 0 a W6 → a.heap.size ≤ L → Kb 0 a W9 := by
  obtain ⟨M, g1, V1, G1, V, G, o1, hb, zL, zM⟩ := h
  have ka : Kb 0 W W5 := by rw [h5]; exact kb_alloc _ _ _
  have kW6 := ka.trans k6
  have z5 : W5.heap.size = W.heap.size + 1 := by rw [h5]; exact World.size_alloc _ _
  have z6 := k6.size
  have d6 : W6.heap[W.heap.size]? = some (.cells #[y1, y2] 30 (0, 0)) := (k6.block _ (Nat.zero_le _) (by omega)).trans (by rw [h5]; exact alloc_new _ _ _)
  have nb : some W.heap.size ≠ y2.ownBlock := fun e => by have := (hb.ro.lt _ e.symm).2; omega
  have hbe := hb.ext (F' := (pD D b A).Q) (fun j hj => (if_neg (by omega)).symm)
  refine ⟨M, cel 2 (pD D b A).Q V D.m, ⟨(hbe.keep kW6.size (fun q _ h2 => kW6.block q (Nat.zero_le _) h2)).ro, by omega, nb⟩, fun ob W8 g cap h8 g8 ha => ?_⟩
  have eQ : (pD D b A).Q D.m = ⟨false, b, 64, A⟩ := if_pos rfl
  have st := hbe.step (W6 := W6) zM kW6.size (fun q _ h2 => kW6.block q (Nat.zero_le _) h2) (vx := vx) (gx := gx) (by rw [eQ]; exact ox) (fun _ => by omega) (ob := ob) (by rw [eQ]; exact h8) g8 ha
  have z8 : W6.heap.size + 1 ≤ W8.heap.size := by have := g8.size; rw [World.size_alloc] at this; exact this
  have b8 : ∀ q, q < W6.heap.size → some q ≠ y2.ownBlock → W8.heap[q]? = W6.heap[q]? := fun q hq hn => (g8.block q (by rw [World.size_alloc]; omega) hn).trans ((kb_alloc 0 W6 ob).block q (Nat.zero_le _) hq)
  have lo : ∀ q, q < M → some q ≠ y2.ownBlock := fun q hq e => by have := (hb.ro.lt q e.symm).1; omega
  have d8 := (b8 _ (by omega) nb).trans d6
  refine ⟨⟨cell_of d8 rfl, cell_of d8 rfl, fun j => frozen_of d8⟩, fun W9 h9 => ?_⟩
  have z9 : W9.heap.size = W8.heap.size := by rw [h9]; simp
  have d9 : W9.heap[W.heap.size]? = some (.cells #[y1, .slice (some ⟨g, 0, none⟩) (D.m + 1) cap] 30 (0, 0)) := by rw [h9]; exact set_known _ d8
  have b9 : ∀ q, q ≠ W.heap.size → W9.heap[q]? = W8.heap[q]? := fun q hq => by rw [h9, Below.heap_setCell _ _ _ _ (show q ≠ W.heap.size from hq)]
  refine ⟨cell_of d9 rfl, cell_of d9 rfl, ?_, fun a k hl => ?_⟩
  · have st9 : BE 2 M 71 W8 (.slice (some ⟨g, 0, none⟩) (D.m + 1) cap) (D.m + 1) (pD D b A).Q _ _ := st
    have hg9 : g ≠ W.heap.size := fun e => by
      rcases ha with a | a
      · exact nb (by rw [a, e])
      · omega
    have st10 : BE 2 M 71 W9 (.slice (some ⟨g, 0, none⟩) (D.m + 1) cap) (D.m + 1) (pD D b A).Q _ _ := ⟨own_keep st9.ro (fun q hq => b9 q (fun e => by
        have : q = g := by simpa [Value.ownBlock] using hq.symm
        exact hg9 (by omega))), fun i hi => (st9.ow i hi).kb (fun hc => b9 _ (fun e => by
        have hwi : OwnR W8 _ _ _ _ := st9.ow i hi
        rcases Nat.lt_or_ge i D.m with q | q
        · rw [if_neg (by omega)] at e
          have := (hbe.lo i q (by omega)).2.1
          omega
        · rw [if_pos (by omega)] at e
          omega)), fun i hi hc => by rw [z9]; exact st9.lo i hi hc, st9.di⟩
    obtain ⟨g', o⟩ := st10.owE (.inr (.inl rfl))
    exact ⟨M, g1, V1, G1, g', _, _, o1.block (fun q h1 h2 => (b9 q (by omega)).trans ((b8 q (by omega) (lo q h2)).trans (kW6.block q (Nat.zero_le _) (by omega)))), o, zL, by omega⟩
  · refine ⟨?_, ?_, by have := k.size; omega, fun q h1 h2 => (b9 q (by omega)).trans ((b8 q (by omega) (lo q (by omega))).trans (k.block q h1 h2))⟩
    · rw [h9]; exact g8.os.trans k.os
    · rw [h9]; exact g8.output.trans k.output
set_option maxHeartbeats 8000000 in
theorem sp_put_n1 {v1 v2 : Value} {D : Dd} {pk : Option Addr} {nk ck : Nat} (b : Int) (w : World) (ha : RowD 0 w v1 v2 D) (hd : BdD D) (hok : ¬ Dok D) :
    Calls Try.prog 10 #[.agg #[v1, v2], .int .i64 b, .slice pk nk ck] w fun e w' => e = .returned (.agg #[.slice none 0 0, .slice none 0 0]) ∧ Kb 0 w w' := by
  obtain ⟨⟨p1, c1, rfl, -⟩, ⟨p2, c2, rfl, -⟩⟩ := id ha
  obtain ⟨w2, hw2⟩ : ∃ w2, w2 = (w.alloc (.cells #[.slice p1 D.n c1, .slice p2 D.m c2] 30)).alloc (.cells #[.slice none 0 0, .slice none 0 0] 30) := ⟨_, rfl⟩
  obtain ⟨b0, b1, z2, k2⟩ := two_newD w _ _ _ _ w2 hw2
  have u0 : w2.cell? ⟨w.heap.size, 0, none⟩ = some (.slice p1 D.n c1) := cell_of b0 rfl
  have u1 : w2.cell? ⟨w.heap.size, 1, none⟩ = some (.slice p2 D.m c2) := cell_of b0 rfl
  have HB : Hid (Kb 0 w w2 ∧ w2.heap[w.heap.size]? = some (.cells #[.slice p1 D.n c1, .slice p2 D.m c2] 30 (0, 0)) ∧ w2.heap[w.heap.size + 1]? = some (.cells #[.slice none 0 0, .slice none 0 0] 30 (0, 0)) ∧ w2.heap.size = w.heap.size + 2) := (⟨k2, b0, b1, z2⟩ : _ ∧ _)
  have HW2 : Hid (w2 = (w.alloc (.cells #[.slice p1 D.n c1, .slice p2 D.m c2] 30)).alloc (.cells #[.slice none 0 0, .slice none 0 0] 30)) := hw2
  have HI : Calls Try.prog 43 #[.agg #[.slice p1 D.n c1, .slice p2 D.m c2]] w2 fun e w' => e = .returned (.bool false) ∧ Kb 0 w2 w' := by
    have := sp_dok w2 (ha.keep k2) hd
    rw [dc_f hok] at this
    exact this
  clear hw2 b0 b1 z2 k2 ha hd hok
  go_enter Try.func10, Try.ntmps10
  go_upto_region 1 with fail
  rw [← (show w2 = _ from HW2)]
  clear HW2
  go_wp2_with fail
  refine HI.mono ?_
  rintro e w3 ⟨rfl, k3⟩
  obtain ⟨kw2, b0, b1, z2⟩ := (show _ ∧ _ ∧ _ ∧ _ from HB)
  have r := (k3.block (w.heap.size + 1) (Nat.zero_le _) (by omega)).trans b1
  have a0 : w3.cell? ⟨w.heap.size + 1, 0, none⟩ = some (.slice none 0 0) := cell_of r rfl
  have a1 : w3.cell? ⟨w.heap.size + 1, 1, none⟩ = some (.slice none 0 0) := cell_of r rfl
  have fy : ∀ j, w3.frozen? ⟨w.heap.size + 1, j, none⟩ = false := fun j => frozen_of r
  obtain ⟨WF, hWF⟩ : ∃ WF, WF = (w3.setCell ⟨w.heap.size + 1, 0, none⟩ (.slice none 0 0)).setCell ⟨w.heap.size + 1, 1, none⟩ (.slice none 0 0) := ⟨_, rfl⟩
  have zF : WF.heap.size = w3.heap.size := by rw [hWF]; simp
  have bF : ∀ q, q ≠ w.heap.size + 1 → WF.heap[q]? = w3.heap[q]? := fun q hq => by
    rw [hWF, Below.heap_setCell _ _ _ _ (show q ≠ w.heap.size + 1 from hq), Below.heap_setCell _ _ _ _ (show q ≠ w.heap.size + 1 from hq)]
  have rF : WF.heap[w.heap.size + 1]? = some (.cells #[.slice none 0 0, .slice none 0 0] 30 (0, 0)) := by
    rw [hWF]
    exact set_known _ (set_known _ r)
  have f3 : WF.cell? ⟨w.heap.size + 1, 0, none⟩ = some (.slice none 0 0) := cell_of rF rfl
  have f4 : WF.cell? ⟨w.heap.size + 1, 1, none⟩ = some (.slice none 0 0) := cell_of rF rfl
  have kF : Kb 0 w WF := by rw [hWF]; exact ((kw2.trans k3).setCell _ (.inr (by show _ ≤ w.heap.size + 1; omega)) _).setCell _ (.inr (by show _ ≤ w.heap.size + 1; omega)) _
  have HF : Hid (Kb 0 w WF) := kF
  have HWF : Hid (WF = _) := hWF
  clear HI u0 u1 HB kw2 b0 b1 z2 r k3 zF bF rF kF hWF
  go_wp2_with fail
  rw [← (show WF = _ from HWF)]
  clear HWF
  refine bodyPost_ret (by simp [results, Try.results10, go_sem, f3, f4]; rfl) rfl ?_
  exact ⟨rfl, HF⟩
set_option maxHeartbeats 8000000 in
theorem sp_put_n2 {v1 v2 : Value} {D : Dd} {pk : Option Addr} {nk ck : Nat} (b : Int) (w : World) (ha : RowD 0 w v1 v2 D) (hd : BdD D) (hok : Dok D) (hb : b < 0) :
    Calls Try.prog 10 #[.agg #[v1, v2], .int .i64 b, .slice pk nk ck] w fun e w' => e = .returned (.agg #[.slice none 0 0, .slice none 0 0]) ∧ Kb 0 w w' := by
  obtain ⟨⟨p1, c1, rfl, -⟩, ⟨p2, c2, rfl, -⟩⟩ := id ha
  obtain ⟨w2, hw2⟩ : ∃ w2, w2 = (w.alloc (.cells #[.slice p1 D.n c1, .slice p2 D.m c2] 30)).alloc (.cells #[.slice none 0 0, .slice none 0 0] 30) := ⟨_, rfl⟩
  obtain ⟨b0, b1, z2, k2⟩ := two_newD w _ _ _ _ w2 hw2
  have u0 : w2.cell? ⟨w.heap.size, 0, none⟩ = some (.slice p1 D.n c1) := cell_of b0 rfl
  have u1 : w2.cell? ⟨w.heap.size, 1, none⟩ = some (.slice p2 D.m c2) := cell_of b0 rfl
  have HB : Hid (Kb 0 w w2 ∧ w2.heap[w.heap.size]? = some (.cells #[.slice p1 D.n c1, .slice p2 D.m c2] 30 (0, 0)) ∧ w2.heap[w.heap.size + 1]? = some (.cells #[.slice none 0 0, .slice none 0 0] 30 (0, 0)) ∧ w2.heap.size = w.heap.size + 2) := (⟨k2, b0, b1, z2⟩ : _ ∧ _)
  have HW2 : Hid (w2 = (w.alloc (.cells #[.slice p1 D.n c1, .slice p2 D.m c2] 30)).alloc (.cells #[.slice none 0 0, .slice none 0 0] 30)) := hw2
  have HI : Calls Try.prog 43 #[.agg #[.slice p1 D.n c1, .slice p2 D.m c2]] w2 fun e w' => e = .returned (.bool true) ∧ Kb 0 w2 w' := by
    have := sp_dok w2 (ha.keep k2) hd
    rw [dc_t hok] at this
    exact this
  clear hw2 b0 b1 z2 k2 ha hd hok
  go_enter Try.func10, Try.ntmps10
  go_upto_region 1 with fail
  rw [← (show w2 = _ from HW2)]
  clear HW2
  go_wp2_with fail
  refine HI.mono ?_
  rintro e w3 ⟨rfl, k3⟩
  obtain ⟨kw2, b0, b1, z2⟩ := (show _ ∧ _ ∧ _ ∧ _ from HB)
  have r := (k3.block (w.heap.size + 1) (Nat.zero_le _) (by omega)).trans b1
  have a0 : w3.cell? ⟨w.heap.size + 1, 0, none⟩ = some (.slice none 0 0) := cell_of r rfl
  have a1 : w3.cell? ⟨w.heap.size + 1, 1, none⟩ = some (.slice none 0 0) := cell_of r rfl
  have fy : ∀ j, w3.frozen? ⟨w.heap.size + 1, j, none⟩ = false := fun j => frozen_of r
  obtain ⟨WF, hWF⟩ : ∃ WF, WF = (w3.setCell ⟨w.heap.size + 1, 0, none⟩ (.slice none 0 0)).setCell ⟨w.heap.size + 1, 1, none⟩ (.slice none 0 0) := ⟨_, rfl⟩
  have zF : WF.heap.size = w3.heap.size := by rw [hWF]; simp
  have bF : ∀ q, q ≠ w.heap.size + 1 → WF.heap[q]? = w3.heap[q]? := fun q hq => by
    rw [hWF, Below.heap_setCell _ _ _ _ (show q ≠ w.heap.size + 1 from hq), Below.heap_setCell _ _ _ _ (show q ≠ w.heap.size + 1 from hq)]
  have rF : WF.heap[w.heap.size + 1]? = some (.cells #[.slice none 0 0, .slice none 0 0] 30 (0, 0)) := by
    rw [hWF]
    exact set_known _ (set_known _ r)
  have f3 : WF.cell? ⟨w.heap.size + 1, 0, none⟩ = some (.slice none 0 0) := cell_of rF rfl
  have f4 : WF.cell? ⟨w.heap.size + 1, 1, none⟩ = some (.slice none 0 0) := cell_of rF rfl
  have kF : Kb 0 w WF := by rw [hWF]; exact ((kw2.trans k3).setCell _ (.inr (by show _ ≤ w.heap.size + 1; omega)) _).setCell _ (.inr (by show _ ≤ w.heap.size + 1; omega)) _
  have HF : Hid (Kb 0 w WF) := kF
  have HWF : Hid (WF = _) := hWF
  clear HI u0 u1 HB kw2 b0 b1 z2 r k3 zF bF rF kF hWF
  go_wp2_with fail
  rw [← (show WF = _ from HWF)]
  clear HWF
  refine bodyPost_ret (by simp [results, Try.results10, go_sem, f3, f4]; rfl) rfl ?_
  exact ⟨rfl, HF⟩
set_option maxHeartbeats 8000000 in
theorem sp_put_n3 {v1 v2 : Value} {D : Dd} {pk : Option Addr} {nk ck : Nat} (b : Int) (w : World) (ha : RowD 0 w v1 v2 D) (hd : BdD D) (hok : Dok D) (hb : 0 ≤ b) (hb2 : 258 ≤ b) :
    Calls Try.prog 10 #[.agg #[v1, v2], .int .i64 b, .slice pk nk ck] w fun e w' => e = .returned (.agg #[.slice none 0 0, .slice none 0 0]) ∧ Kb 0 w w' := by
  obtain ⟨⟨p1, c1, rfl, -⟩, ⟨p2, c2, rfl, -⟩⟩ := id ha
  obtain ⟨w2, hw2⟩ : ∃ w2, w2 = (w.alloc (.cells #[.slice p1 D.n c1, .slice p2 D.m c2] 30)).alloc (.cells #[.slice none 0 0, .slice none 0 0] 30) := ⟨_, rfl⟩
  obtain ⟨b0, b1, z2, k2⟩ := two_newD w _ _ _ _ w2 hw2
  have u0 : w2.cell? ⟨w.heap.size, 0, none⟩ = some (.slice p1 D.n c1) := cell_of b0 rfl
  have u1 : w2.cell? ⟨w.heap.size, 1, none⟩ = some (.slice p2 D.m c2) := cell_of b0 rfl
  have HB : Hid (Kb 0 w w2 ∧ w2.heap[w.heap.size]? = some (.cells #[.slice p1 D.n c1, .slice p2 D.m c2] 30 (0, 0)) ∧ w2.heap[w.heap.size + 1]? = some (.cells #[.slice none 0 0, .slice none 0 0] 30 (0, 0)) ∧ w2.heap.size = w.heap.size + 2) := (⟨k2, b0, b1, z2⟩ : _ ∧ _)
  have HW2 : Hid (w2 = (w.alloc (.cells #[.slice p1 D.n c1, .slice p2 D.m c2] 30)).alloc (.cells #[.slice none 0 0, .slice none 0 0] 30)) := hw2
  have HI : Calls Try.prog 43 #[.agg #[.slice p1 D.n c1, .slice p2 D.m c2]] w2 fun e w' => e = .returned (.bool true) ∧ Kb 0 w2 w' := by
    have := sp_dok w2 (ha.keep k2) hd
    rw [dc_t hok] at this
    exact this
  clear hw2 b0 b1 z2 k2 ha hd hok
  go_enter Try.func10, Try.ntmps10
  go_upto_region 1 with fail
  rw [← (show w2 = _ from HW2)]
  clear HW2
  go_wp2_with fail
  refine HI.mono ?_
  rintro e w3 ⟨rfl, k3⟩
  obtain ⟨kw2, b0, b1, z2⟩ := (show _ ∧ _ ∧ _ ∧ _ from HB)
  have r := (k3.block (w.heap.size + 1) (Nat.zero_le _) (by omega)).trans b1
  have a0 : w3.cell? ⟨w.heap.size + 1, 0, none⟩ = some (.slice none 0 0) := cell_of r rfl
  have a1 : w3.cell? ⟨w.heap.size + 1, 1, none⟩ = some (.slice none 0 0) := cell_of r rfl
  have fy : ∀ j, w3.frozen? ⟨w.heap.size + 1, j, none⟩ = false := fun j => frozen_of r
  obtain ⟨WF, hWF⟩ : ∃ WF, WF = (w3.setCell ⟨w.heap.size + 1, 0, none⟩ (.slice none 0 0)).setCell ⟨w.heap.size + 1, 1, none⟩ (.slice none 0 0) := ⟨_, rfl⟩
  have zF : WF.heap.size = w3.heap.size := by rw [hWF]; simp
  have bF : ∀ q, q ≠ w.heap.size + 1 → WF.heap[q]? = w3.heap[q]? := fun q hq => by
    rw [hWF, Below.heap_setCell _ _ _ _ (show q ≠ w.heap.size + 1 from hq), Below.heap_setCell _ _ _ _ (show q ≠ w.heap.size + 1 from hq)]
  have rF : WF.heap[w.heap.size + 1]? = some (.cells #[.slice none 0 0, .slice none 0 0] 30 (0, 0)) := by
    rw [hWF]
    exact set_known _ (set_known _ r)
  have f3 : WF.cell? ⟨w.heap.size + 1, 0, none⟩ = some (.slice none 0 0) := cell_of rF rfl
  have f4 : WF.cell? ⟨w.heap.size + 1, 1, none⟩ = some (.slice none 0 0) := cell_of rF rfl
  have kF : Kb 0 w WF := by rw [hWF]; exact ((kw2.trans k3).setCell _ (.inr (by show _ ≤ w.heap.size + 1; omega)) _).setCell _ (.inr (by show _ ≤ w.heap.size + 1; omega)) _
  have HF : Hid (Kb 0 w WF) := kF
  have HWF : Hid (WF = _) := hWF
  clear HI u0 u1 HB kw2 b0 b1 z2 r k3 zF bF rF kF hWF
  go_wp2_with fail
  rw [← (show WF = _ from HWF)]
  clear HWF
  refine bodyPost_ret (by simp [results, Try.results10, go_sem, f3, f4]; rfl) rfl ?_
  exact ⟨rfl, HF⟩
set_option maxHeartbeats 8000000 in
theorem sp_put_n4 {v1 v2 : Value} {D : Dd} {pk : Option Addr} {nk ck : Nat} (b : Int) (w : World) (ha : RowD 0 w v1 v2 D) (hd : BdD D) (hok : Dok D) (hb : 0 ≤ b) (hb2 : b < 258) (hn : ¬ nk = 64) :
    Calls Try.prog 10 #[.agg #[v1, v2], .int .i64 b, .slice pk nk ck] w fun e w' => e = .returned (.agg #[.slice none 0 0, .slice none 0 0]) ∧ Kb 0 w w' := by
  obtain ⟨⟨p1, c1, rfl, -⟩, ⟨p2, c2, rfl, -⟩⟩ := id ha
  obtain ⟨w2, hw2⟩ : ∃ w2, w2 = (w.alloc (.cells #[.slice p1 D.n c1, .slice p2 D.m c2] 30)).alloc (.cells #[.slice none 0 0, .slice none 0 0] 30) := ⟨_, rfl⟩
  obtain ⟨b0, b1, z2, k2⟩ := two_newD w _ _ _ _ w2 hw2
  have u0 : w2.cell? ⟨w.heap.size, 0, none⟩ = some (.slice p1 D.n c1) := cell_of b0 rfl
  have u1 : w2.cell? ⟨w.heap.size, 1, none⟩ = some (.slice p2 D.m c2) := cell_of b0 rfl
  have HB : Hid (Kb 0 w w2 ∧ w2.heap[w.heap.size]? = some (.cells #[.slice p1 D.n c1, .slice p2 D.m c2] 30 (0, 0)) ∧ w2.heap[w.heap.size + 1]? = some (.cells #[.slice none 0 0, .slice none 0 0] 30 (0, 0)) ∧ w2.heap.size = w.heap.size + 2) := (⟨k2, b0, b1, z2⟩ : _ ∧ _)
  have HW2 : Hid (w2 = (w.alloc (.cells #[.slice p1 D.n c1, .slice p2 D.m c2] 30)).alloc (.cells #[.slice none 0 0, .slice none 0 0] 30)) := hw2
  have HI : Calls Try.prog 43 #[.agg #[.slice p1 D.n c1, .slice p2 D.m c2]] w2 fun e w' => e = .returned (.bool true) ∧ Kb 0 w2 w' := by
    have := sp_dok w2 (ha.keep k2) hd
    rw [dc_t hok] at this
    exact this
  have hnI : ¬ (nk : Int) = 64 := by omega
  clear hw2 b0 b1 z2 k2 ha hd hok
  go_enter Try.func10, Try.ntmps10
  go_upto_region 1 with fail
  rw [← (show w2 = _ from HW2)]
  clear HW2
  go_wp2_with fail
  refine HI.mono ?_
  rintro e w3 ⟨rfl, k3⟩
  obtain ⟨kw2, b0, b1, z2⟩ := (show _ ∧ _ ∧ _ ∧ _ from HB)
  have r := (k3.block (w.heap.size + 1) (Nat.zero_le _) (by omega)).trans b1
  have a0 : w3.cell? ⟨w.heap.size + 1, 0, none⟩ = some (.slice none 0 0) := cell_of r rfl
  have a1 : w3.cell? ⟨w.heap.size + 1, 1, none⟩ = some (.slice none 0 0) := cell_of r rfl
  have fy : ∀ j, w3.frozen? ⟨w.heap.size + 1, j, none⟩ = false := fun j => frozen_of r
  obtain ⟨WF, hWF⟩ : ∃ WF, WF = (w3.setCell ⟨w.heap.size + 1, 0, none⟩ (.slice none 0 0)).setCell ⟨w.heap.size + 1, 1, none⟩ (.slice none 0 0) := ⟨_, rfl⟩
  have zF : WF.heap.size = w3.heap.size := by rw [hWF]; simp
  have bF : ∀ q, q ≠ w.heap.size + 1 → WF.heap[q]? = w3.heap[q]? := fun q hq => by
    rw [hWF, Below.heap_setCell _ _ _ _ (show q ≠ w.heap.size + 1 from hq), Below.heap_setCell _ _ _ _ (show q ≠ w.heap.size + 1 from hq)]
  have rF : WF.heap[w.heap.size + 1]? = some (.cells #[.slice none 0 0, .slice none 0 0] 30 (0, 0)) := by
    rw [hWF]
    exact set_known _ (set_known _ r)
  have f3 : WF.cell? ⟨w.heap.size + 1, 0, none⟩ = some (.slice none 0 0) := cell_of rF rfl
  have f4 : WF.cell? ⟨w.heap.size + 1, 1, none⟩ = some (.slice none 0 0) := cell_of rF rfl
  have kF : Kb 0 w WF := by rw [hWF]; exact ((kw2.trans k3).setCell _ (.inr (by show _ ≤ w.heap.size + 1; omega)) _).setCell _ (.inr (by show _ ≤ w.heap.size + 1; omega)) _
  have HF : Hid (Kb 0 w WF) := kF
  have HWF : Hid (WF = _) := hWF
  clear HI u0 u1 HB kw2 b0 b1 z2 r k3 zF bF rF kF hWF
  go_wp2_with fail
  rw [← (show WF = _ from HWF)]
  clear HWF
  refine bodyPost_ret (by simp [results, Try.results10, go_sem, f3, f4]; rfl) rfl ?_
  exact ⟨rfl, HF⟩
set_option maxHeartbeats 8000000 in
theorem sp_put_n5 {v1 v2 : Value} {D : Dd} {pk : Option Addr} {nk ck : Nat} (b : Int) (w : World) (ha : RowD 0 w v1 v2 D) (hd : BdD D) (hok : Dok D) (hb : 0 ≤ b) (hb2 : b < 258) (hn : (nk : Int) = 64) (hm : D.m = 200) :
    Calls Try.prog 10 #[.agg #[v1, v2], .int .i64 b, .slice pk nk ck] w fun e w' => e = .returned (.agg #[.slice none 0 0, .slice none 0 0]) ∧ Kb 0 w w' := by
  obtain ⟨⟨p1, c1, rfl, -⟩, ⟨p2, c2, rfl, -⟩⟩ := id ha
  obtain ⟨w2, hw2⟩ : ∃ w2, w2 = (w.alloc (.cells #[.slice p1 D.n c1, .slice p2 D.m c2] 30)).alloc (.cells #[.slice none 0 0, .slice none 0 0] 30) := ⟨_, rfl⟩
  obtain ⟨b0, b1, z2, k2⟩ := two_newD w _ _ _ _ w2 hw2
  have u0 : w2.cell? ⟨w.heap.size, 0, none⟩ = some (.slice p1 D.n c1) := cell_of b0 rfl
  have u1 : w2.cell? ⟨w.heap.size, 1, none⟩ = some (.slice p2 D.m c2) := cell_of b0 rfl
  have HB : Hid (Kb 0 w w2 ∧ w2.heap[w.heap.size]? = some (.cells #[.slice p1 D.n c1, .slice p2 D.m c2] 30 (0, 0)) ∧ w2.heap[w.heap.size + 1]? = some (.cells #[.slice none 0 0, .slice none 0 0] 30 (0, 0)) ∧ w2.heap.size = w.heap.size + 2) := (⟨k2, b0, b1, z2⟩ : _ ∧ _)
  have HW2 : Hid (w2 = (w.alloc (.cells #[.slice p1 D.n c1, .slice p2 D.m c2] 30)).alloc (.cells #[.slice none 0 0, .slice none 0 0] 30)) := hw2
  have HI : Calls Try.prog 43 #[.agg #[.slice p1 D.n c1, .slice p2 D.m c2]] w2 fun e w' => e = .returned (.bool true) ∧ Kb 0 w2 w' := by
    have := sp_dok w2 (ha.keep k2) hd
    rw [dc_t hok] at this
    exact this
  have HM : Hid (D.m = 200) := hm
  clear hm
  clear hw2 b0 b1 z2 k2 ha hd hok
  go_enter Try.func10, Try.ntmps10
  go_upto_region 1 with fail
  rw [← (show w2 = _ from HW2)]
  clear HW2
  go_wp2_with fail
  refine HI.mono ?_
  rintro e w3 ⟨rfl, k3⟩
  have u3 : w3.cell? ⟨w.heap.size, 1, none⟩ = some (.slice p2 200 c2) := by have := k3.cell u1; rw [show D.m = 200 from HM] at this; exact this
  obtain ⟨kw2, b0, b1, z2⟩ := (show _ ∧ _ ∧ _ ∧ _ from HB)
  have r := (k3.block (w.heap.size + 1) (Nat.zero_le _) (by omega)).trans b1
  have a0 : w3.cell? ⟨w.heap.size + 1, 0, none⟩ = some (.slice none 0 0) := cell_of r rfl
  have a1 : w3.cell? ⟨w.heap.size + 1, 1, none⟩ = some (.slice none 0 0) := cell_of r rfl
  have fy : ∀ j, w3.frozen? ⟨w.heap.size + 1, j, none⟩ = false := fun j => frozen_of r
  obtain ⟨WF, hWF⟩ : ∃ WF, WF = (w3.setCell ⟨w.heap.size + 1, 0, none⟩ (.slice none 0 0)).setCell ⟨w.heap.size + 1, 1, none⟩ (.slice none 0 0) := ⟨_, rfl⟩
  have zF : WF.heap.size = w3.heap.size := by rw [hWF]; simp
  have bF : ∀ q, q ≠ w.heap.size + 1 → WF.heap[q]? = w3.heap[q]? := fun q hq => by
    rw [hWF, Below.heap_setCell _ _ _ _ (show q ≠ w.heap.size + 1 from hq), Below.heap_setCell _ _ _ _ (show q ≠ w.heap.size + 1 from hq)]
  have rF : WF.heap[w.heap.size + 1]? = some (.cells #[.slice none 0 0, .slice none 0 0] 30 (0, 0)) := by
    rw [hWF]
    exact set_known _ (set_known _ r)
  have f3 : WF.cell? ⟨w.heap.size + 1, 0, none⟩ = some (.slice none 0 0) := cell_of rF rfl
  have f4 : WF.cell? ⟨w.heap.size + 1, 1, none⟩ = some (.slice none 0 0) := cell_of rF rfl
  have kF : Kb 0 w WF := by rw [hWF]; exact ((kw2.trans k3).setCell _ (.inr (by show _ ≤ w.heap.size + 1; omega)) _).setCell _ (.inr (by show _ ≤ w.heap.size + 1; omega)) _
  have HF : Hid (Kb 0 w WF) := kF
  have HWF : Hid (WF = _) := hWF
  clear HI u0 u1 HB kw2 b0 b1 z2 r k3 zF bF rF kF hWF HM
  go_wp2_with fail
  rw [← (show WF = _ from HWF)]
  clear HWF
  refine bodyPost_ret (by simp [results, Try.results10, go_sem, f3, f4]; rfl) rfl ?_
  exact ⟨rfl, HF⟩
set_option maxHeartbeats 16000000 in
theorem sp_put_yes {v1 v2 : Value} {D : Dd} {pk : Option Addr} {ck : Nat} {A : Nat → Int} (b : Int) (w : World) (ha : RowD 0 w v1 v2 D) (hd : BdD D) (hok : Dok D) (hb : 0 ≤ b ∧ b < 258) (hk : RowV w (.slice pk 64 ck) 64 (ub A)) (hm : D.m < 200) :
    Calls Try.prog 10 #[.agg #[v1, v2], .int .i64 b, .slice pk 64 ck] w fun e w' => ∃ u1 u2, e = .returned (.agg #[u1, u2]) ∧ OwD w.heap.size w'.heap.size w' u1 u2 (pD D b A) ∧ Kb 0 w w' := by
  obtain ⟨⟨p1, c1, rfl, -⟩, ⟨p2, c2, rfl, -⟩⟩ := id ha
  obtain ⟨w2, hw2⟩ : ∃ w2, w2 = (w.alloc (.cells #[.slice p1 D.n c1, .slice p2 D.m c2] 30)).alloc (.cells #[.slice none 0 0, .slice none 0 0] 30) := ⟨_, rfl⟩
  obtain ⟨b0, b1, z2, k2⟩ := two_newD w _ _ _ _ w2 hw2
  have u0 : w2.cell? ⟨w.heap.size, 0, none⟩ = some (.slice p1 D.n c1) := cell_of b0 rfl
  have u1 : w2.cell? ⟨w.heap.size, 1, none⟩ = some (.slice p2 D.m c2) := cell_of b0 rfl
  have HB : Hid (Kb 0 w w2 ∧ w2.heap[w.heap.size]? = some (.cells #[.slice p1 D.n c1, .slice p2 D.m c2] 30 (0, 0)) ∧ w2.heap[w.heap.size + 1]? = some (.cells #[.slice none 0 0, .slice none 0 0] 30 (0, 0)) ∧ w2.heap.size = w.heap.size + 2) := (⟨k2, b0, b1, z2⟩ : _ ∧ _)
  have HW2 : Hid (w2 = (w.alloc (.cells #[.slice p1 D.n c1, .slice p2 D.m c2] 30)).alloc (.cells #[.slice none 0 0, .slice none 0 0] 30)) := hw2
  have HI : Calls Try.prog 43 #[.agg #[.slice p1 D.n c1, .slice p2 D.m c2]] w2 fun e w' => e = .returned (.bool true) ∧ Kb 0 w2 w' := by
    have := sp_dok w2 (ha.keep k2) hd
    rw [dc_t hok] at this
    exact this
  have hb1 : 0 ≤ b := hb.1
  have hb2 : b < 258 := hb.2
  have hq1 : ¬ b < 0 := by omega
  have hq2 : ¬ 258 ≤ b := by omega
  have hmI : ¬ (D.m : Int) = 200 := by omega
  have hx : (decide (b < 0) || decide (258 ≤ b) || (D.m : Int) == 200) = false := by simp [hq1, hq2, hmI]
  have hmN : D.m < 200 := hm
  have HCR : Hid (∀ W, Kb 0 w2 W → Calls Try.prog 44 #[.agg #[.slice p1 D.n c1, .slice p2 D.m c2]] W fun e w' => ∃ u1 u2, e = .returned (.agg #[u1, u2]) ∧ OwB W.heap.size w' u1 u2 D ∧ Kb 0 W w') := (fun W k => sp_dcopy9 W (ha.keep (k2.trans k)) hd : ∀ W, _)
  have HCW : Hid (∀ W, Kb 0 w2 W → Calls Try.prog 45 #[.slice pk 64 ck] W fun e w' => ∃ v g, e = .returned v ∧ OwnR w' v g 64 (ub A) ∧ (0 < 64 → W.heap.size ≤ g ∧ g < w'.heap.size) ∧ Kb 0 W w') := (fun W k => sp_copy W (rowv_keep hk (k2.trans k)) (by decide) : ∀ W, _)
  clear hw2 b0 b1 z2 k2 ha hd hok hk hb hm
  obtain ⟨i1, hi1, hz0, hz1, hz2⟩ := infoWr
  have HI1 : Hid (Try.prog.info? 71 = some i1) := hi1
  clear hi1
  go_enter Try.func10, Try.ntmps10
  go_upto_region 1 with fail
  rw [← (show w2 = _ from HW2)]
  clear HW2
  go_wp2_with fail
  refine HI.mono ?_
  rintro e w3 ⟨rfl, k3⟩
  have u30 := k3.cell u0
  have u31 := k3.cell u1
  have HC3 := (show ∀ W, Kb 0 w2 W → _ from HCR) w3 k3
  have HK3 : Hid (Kb 0 w2 w3) := k3
  clear HI HCR u0 u1 k3
  go_wp2_with fail
  refine HC3.mono ?_
  rintro e w4 ⟨y1', y2', rfl, o4, k4⟩
  obtain ⟨y1, e1, y2, e2, rfl, rfl⟩ := o4.shape
  obtain ⟨P7, hP7⟩ : ∃ P7, P7 = w4.heap.size := ⟨_, rfl⟩
  obtain ⟨w5, hw5⟩ : ∃ w5, w5 = w4.alloc (.cells #[.slice y1 D.n e1, .slice y2 D.m e2] 30) := ⟨_, rfl⟩
  have k45 : Kb 0 w4 w5 := by rw [hw5]; exact kb_alloc _ _ _
  have k25 := ((show Kb 0 w2 w3 from HK3).trans k4).trans k45
  have c7 : w5.cell? ⟨P7, 1, none⟩ = some (.slice y2 D.m e2) := by rw [hw5, hP7]; exact cell_of (alloc_new _ _ _) rfl
  have HCB : Hid (∀ W, Kb 0 w5 W → Calls Try.prog 45 #[.slice pk 64 ck] W fun e w' => ∃ v g, e = .returned v ∧ OwnR w' v g 64 (ub A) ∧ (0 < 64 → W.heap.size ≤ g ∧ g < w'.heap.size) ∧ Kb 0 W w') := (fun W k => (show ∀ W, Kb 0 w2 W → _ from HCW) W (k25.trans k) : ∀ W, _)
  have HPU : Hid (∀ (W6 : World) vx gx, Kb 0 w5 W6 → OwnR W6 vx gx 64 (ub A) → (w5.heap.size ≤ gx ∧ gx < W6.heap.size) → ∃ M CL, (W6.ownsRow M 71 2 (.slice y2 D.m e2) D.m CL ∧ M ≤ W6.heap.size ∧ some P7 ≠ (Value.slice y2 D.m e2).ownBlock) ∧
    ∀ (ob : Obj) (W8 : World) (g cap : Nat), W8.ownsRow M 71 2 (.slice (some ⟨g, 0, none⟩) (D.m + 1) cap) (D.m + 1) (CL ++ [.int .i64 b, vx]) → (W6.alloc ob).grownBy W8 (Value.slice y2 D.m e2).ownBlock → ((Value.slice y2 D.m e2).ownBlock = some g ∨ g = W6.heap.size + 1) →
      (W8.cell? ⟨P7, 0, none⟩ = some (.slice y1 D.n e1) ∧ W8.cell? ⟨P7, 1, none⟩ = some (.slice y2 D.m e2) ∧ ∀ j, W8.frozen? ⟨P7, j, none⟩ = false) ∧
      ∀ W9 : World, W9 = W8.setCell ⟨P7, 1, none⟩ (.slice (some ⟨g, 0, none⟩) (D.m + 1) cap) → W9.cell? ⟨P7, 0, none⟩ = some (.slice y1 D.n e1) ∧ W9.cell? ⟨P7, 1, none⟩ = some (.slice (some ⟨g, 0, none⟩) (D.m + 1) cap) ∧ OwD w3.heap.size W9.heap.size W9 (.slice y1 D.n e1) (.slice (some ⟨g, 0, none⟩) (D.m + 1) cap) (pD D b A) ∧ Kb 0 w2 W9) := (fun W6 vx gx k6 ox lx => by
    obtain ⟨M, CL, h1, h2⟩ := o4.push b hw5 k6 ox lx
    rw [hP7]
    refine ⟨M, CL, h1, fun ob W8 g cap a1 a2 a3 => ?_⟩
    obtain ⟨h3, h4⟩ := h2 ob W8 g cap a1 a2 a3
    refine ⟨h3, fun W9 h9 => ?_⟩
    obtain ⟨h5, h6, h7, h8⟩ := h4 W9 h9
    exact ⟨h5, h6, h7, h8 w2 (k25.trans k6) (show Kb 0 w2 w3 from HK3).size⟩ : ∀ (W6 : World) vx gx, _)
  have HW5 : Hid (w5 = w4.alloc (.cells #[.slice y1 D.n e1, .slice y2 D.m e2] 30) ∧ P7 = w4.heap.size) := (⟨hw5, hP7⟩ : _ ∧ _)
  have HC7 : Hid (w5.cell? ⟨P7, 1, none⟩ = some (.slice y2 D.m e2)) := c7
  clear HC3 HCW u30 u31 k4 k45 k25 o4 hw5 hP7 c7
  go_upto_region 4 with fail
  rw [← (show _ ∧ _ from HW5).1, ← (show _ ∧ _ from HW5).2]
  clear HW5
  refine AnyL.region (S := fun W' => W'.cell? ⟨P7, 1, none⟩ = some (.slice y2 D.m e2)) (z := 9) (by kernel_rfl) ?_
  have hS0 : (fun W' : World => W'.cell? ⟨P7, 1, none⟩ = some (.slice y2 D.m e2)) w5.drew := (show w5.cell? ⟨P7, 1, none⟩ = some (.slice y2 D.m e2) from HC7)
  have HKD : Hid (Kb 0 w5 w5.drew) := (Kb.drewN (Kb.refl _ _) 1 : Kb 0 w5 w5.drew)
  obtain ⟨W0, hW0⟩ : ∃ W0, W0 = w5.drew := ⟨_, rfl⟩
  rw [← hW0] at HKD hS0 ⊢
  clear hW0 HC7
  refine AnyL.takeAt 0 (.pointer (some ⟨P7, 1, none⟩)) rfl (by kernel_rfl) (by kernel_rfl) (by kernel_rfl) (by kernel_rfl) (fun _ _ _ h => h) rfl hS0 (by intro W hW; go_simp) ?_
  try simp only [Act.put, List.setIfInBounds_toArray, List.set_cons_zero, List.set_cons_succ]
  refine AnyL.takeAt 1 (.slice y2 D.m e2) rfl (by kernel_rfl) (by kernel_rfl) (by kernel_rfl) (by kernel_rfl) (fun _ _ _ h => h) rfl hS0 (by intro W hW; go_simp) ?_
  try simp only [Act.put, List.setIfInBounds_toArray, List.set_cons_zero, List.set_cons_succ]
  refine AnyL.takeAt 2 (.int .i64 b) rfl (by kernel_rfl) (by kernel_rfl) (by kernel_rfl) (by kernel_rfl) (fun _ _ _ h => h) rfl hS0 (by intro W hW; go_simp) ?_
  try simp only [Act.put, List.setIfInBounds_toArray, List.set_cons_zero, List.set_cons_succ]
  refine AnyL.takeAt 3 (.slice pk 64 ck) rfl (by kernel_rfl) (by kernel_rfl) (by kernel_rfl) (by kernel_rfl) (fun _ _ _ h => h) rfl hS0 (by intro W hW; go_simp) ?_
  try simp only [Act.put, List.setIfInBounds_toArray, List.set_cons_zero, List.set_cons_succ]
  refine AnyL.oneAt 4 rfl (by kernel_rfl) rfl ?_
  intro K hK
  go_simp
  refine ((show ∀ W, Kb 0 w5 W → _ from HCB) W0 HKD).mono ?_
  rintro e W6 ⟨vx, gx, rfl, ox, lx, k6⟩
  obtain ⟨px, cx, rfl, -⟩ := ox.sl
  obtain ⟨M, CL, ⟨hown6, h6z, hnb⟩, H8⟩ := (show ∀ (W6 : World) vx gx, _ from HPU) W6 _ gx ((show Kb 0 w5 W0 from HKD).trans k6) ox (by have := lx (by omega); have := (show Kb 0 w5 W0 from HKD).size; omega)
  have hS6 : W6.cell? ⟨P7, 1, none⟩ = some (.slice y2 D.m e2) := k6.cell hS0
  have HS8 : Hid (∀ (ob : Obj) (W8 : World) (g cap : Nat), _) := H8
  clear HPU HCB HKD ox lx k6 H8 hS0
  refine hK.out _ _ (fun _ => hS6) ?_
  clear hK K
  try simp only [Act.put, List.setIfInBounds_toArray, List.set_cons_zero, List.set_cons_succ]
  refine AnyL.oneAt 5 rfl (by kernel_rfl) rfl ?_
  intro K hK
  go_simp
  refine hK.out _ _ (fun _ => hS6) ?_
  clear hK K
  try simp only [Act.put, List.setIfInBounds_toArray, List.set_cons_zero, List.set_cons_succ]
  refine AnyL.oneAt 6 rfl (by kernel_rfl) rfl ?_
  intro K hK
  go_simp
  refine hK.out _ _ (fun _ => (kb_alloc 0 W6 _).cell hS6) ?_
  clear hK K
  try simp only [Act.put, List.setIfInBounds_toArray, List.set_cons_zero, List.set_cons_succ]
  refine AnyL.oneAt 7 rfl (by kernel_rfl) rfl ?_
  intro K hK
  refine wp_append_lies _ (.tmp 34) (.tmp 39) 28 rfl M 71 i1 (.agg #[.int .i64 0, .slice none 0 0]) 2 32 Try.underlying28 HI1 hz0 hz1 hz2 rfl (by decide) (.slice y2 D.m e2) D.m CL rfl (hown6.alloc _) ⟨W6.heap.size, 0, none⟩ 1 1 [.int .i64 b, .slice px 64 cx] rfl rfl (qr_cells W6 #[.int .i64 b, .slice px 64 cx] 71 [.int .i64 b, .slice px 64 cx] rfl) (by intro y hy; simp only [List.mem_cons, List.not_mem_nil, or_false] at hy; rcases hy with rfl | rfl <;> rfl) (by decide) (by unfold maxLen; omega) (by omega) (by rw [World.size_alloc]; omega) (W6.heap.size + 1) (World.size_alloc _ _) ?_
  intro g' cap w8 hown1 hgrow1 hat hlt
  obtain ⟨⟨q0, q1, q2⟩, q9⟩ := (show ∀ (ob : Obj) (W8 : World) (g cap : Nat), _ from HS8) _ w8 g' cap hown1 hgrow1 hat
  have H9 : Hid (∀ W9 : World, _) := q9
  clear HS8 hown1 hgrow1 hat hlt q9 hS6 hown6 hnb h6z
  refine hK.out _ _ (fun _ => q1) ?_
  clear hK K
  try simp only [Act.put, List.setIfInBounds_toArray, List.set_cons_zero, List.set_cons_succ]
  refine AnyL.takeAt 8 (.pointer (some ⟨P7, 1, none⟩)) rfl (by kernel_rfl) (by kernel_rfl) (by kernel_rfl) (by kernel_rfl) (fun _ _ _ h => h) rfl q1 (by intro W hW; go_simp) ?_
  try simp only [Act.put, List.setIfInBounds_toArray, List.set_cons_zero, List.set_cons_succ]
  refine AnyL.oneAt 9 rfl (by kernel_rfl) rfl ?_
  intro K hK
  go_simp
  generalize hW9 : World.setCell w8 _ _ = W9
  obtain ⟨d0, d1, oD, kk⟩ := (show ∀ W9 : World, _ from H9) W9 hW9.symm
  have HOD : Hid (OwD w3.heap.size W9.heap.size W9 (.slice y1 D.n e1) (.slice (some ⟨g', 0, none⟩) (D.m + 1) cap) (pD D b A) ∧ Kb 0 w2 W9) := (⟨oD, kk⟩ : _ ∧ _)
  clear hW9 H9 oD kk q0 q1 q2
  refine hK.out _ _ (fun h => absurd rfl h) ?_
  clear hK K
  try simp only [Act.put, List.setIfInBounds_toArray, List.set_cons_zero, List.set_cons_succ]
  refine AnyL.done (by kernel_rfl) ?_
  obtain ⟨oD, k29⟩ := (show _ ∧ _ from HOD)
  obtain ⟨kw2, b0, b1, z2⟩ := (show _ ∧ _ ∧ _ ∧ _ from HB)
  have r := (k29.block (w.heap.size + 1) (Nat.zero_le _) (by omega)).trans b1
  have a0 : W9.cell? ⟨w.heap.size + 1, 0, none⟩ = some (.slice none 0 0) := cell_of r rfl
  have a1 : W9.cell? ⟨w.heap.size + 1, 1, none⟩ = some (.slice none 0 0) := cell_of r rfl
  have fy : ∀ j, W9.frozen? ⟨w.heap.size + 1, j, none⟩ = false := fun j => frozen_of r
  obtain ⟨WF, hWF⟩ : ∃ WF, WF = (W9.setCell ⟨w.heap.size + 1, 0, none⟩ (.slice y1 D.n e1)).setCell ⟨w.heap.size + 1, 1, none⟩ (.slice (some ⟨g', 0, none⟩) (D.m + 1) cap) := ⟨_, rfl⟩
  have zF : WF.heap.size = W9.heap.size := by rw [hWF]; simp
  have bF : ∀ q, q ≠ w.heap.size + 1 → WF.heap[q]? = W9.heap[q]? := fun q hq => by
    rw [hWF, Below.heap_setCell _ _ _ _ (show q ≠ w.heap.size + 1 from hq), Below.heap_setCell _ _ _ _ (show q ≠ w.heap.size + 1 from hq)]
  have rF : WF.heap[w.heap.size + 1]? = some (.cells #[.slice y1 D.n e1, .slice (some ⟨g', 0, none⟩) (D.m + 1) cap] 30 (0, 0)) := by
    rw [hWF]
    exact set_known _ (set_known _ r)
  have f3 : WF.cell? ⟨w.heap.size + 1, 0, none⟩ = some (.slice y1 D.n e1) := cell_of rF rfl
  have f4 : WF.cell? ⟨w.heap.size + 1, 1, none⟩ = some (.slice (some ⟨g', 0, none⟩) (D.m + 1) cap) := cell_of rF rfl
  have kF : Kb 0 w WF := by rw [hWF]; exact ((kw2.trans k29).setCell _ (.inr (by show _ ≤ w.heap.size + 1; omega)) _).setCell _ (.inr (by show _ ≤ w.heap.size + 1; omega)) _
  have oF : OwD w.heap.size WF.heap.size WF (.slice y1 D.n e1) (.slice (some ⟨g', 0, none⟩) (D.m + 1) cap) (pD D b A) := by
    rw [zF]
    have := (show Kb 0 w2 w3 from HK3).size
    exact (oD.block (fun q h1 h2 => bF q (by omega))).wide (by omega) (Nat.le_refl _)
  have HF : Hid (OwD w.heap.size WF.heap.size WF (.slice y1 D.n e1) (.slice (some ⟨g', 0, none⟩) (D.m + 1) cap) (pD D b A) ∧ Kb 0 w WF) := (⟨oF, kF⟩ : _ ∧ _)
  have HWF : Hid (WF = _) := hWF
  clear oD k29 kw2 b0 b1 z2 r zF bF rF hWF oF kF HB HK3 HOD
  go_wp2_with fail
  rw [← (show WF = _ from HWF)]
  clear HWF
  refine bodyPost_ret (by simp [results, Try.results10, go_sem, f3, f4]; rfl) rfl ?_
  exact ⟨_, _, rfl, HF⟩
end Go.Proofs.Ytiojjejphdhpeaa.Fo
