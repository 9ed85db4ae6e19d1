import Derived.Test.YtaggciimacanbaaMDjc
import Derived.Test.YtaggciimacanbaaMDdf
namespace Go.Proofs.Ytaggciimacanbaa.Fo
open Go.ChangeShapes Go.WideShapes Go.ChangeAt Go.RowKit
set_option linter.unusedVariables false
set_option maxRecDepth 100000
set_option linter.unusedSimpArgs false
set_option maxHeartbeats 8000000 in
theorem sp_img_a0 {v1 v2 : Value} {D : Dd} (w : World) (ha : RowD 0 w v1 v2 D) (hh : ∀ x1 x2 W, RowD 0 W x1 x2 D → Calls Try.prog 59 #[.agg #[x1, x2], .int .i64 0] W fun e w' => e = .returned (.agg #[.bool false, .int .i64 0, .int .i64 0, .int .i64 0]) ∧ Kb 0 W w') :
    Calls Try.prog 98 #[.agg #[v1, v2], .int .i64 0] w (KP zK w) := by
  obtain ⟨⟨p1, c1, rfl, -⟩, ⟨p2, c2, rfl, -⟩⟩ := id ha
  obtain ⟨w1, hw1⟩ : ∃ w1, w1 = w.alloc (.cells #[.slice p1 D.n c1, .slice p2 D.m c2] 30) := ⟨_, rfl⟩
  obtain ⟨w2, hw2⟩ : ∃ w2, w2 = w1.alloc (.cells #[.bool false, .int .i64 0, .int .i64 0, .slice none 0 0] 51) := ⟨_, rfl⟩
  have k1 : Kb 0 w w1 := by rw [hw1]; exact kb_alloc _ _ _
  have b1 : w1.heap[w.heap.size]? = some (.cells #[.slice p1 D.n c1, .slice p2 D.m c2] 30 (0, 0)) := by rw [hw1]; exact alloc_new _ _ _
  have z1 : w1.heap.size = w.heap.size + 1 := by rw [hw1]; exact World.size_alloc _ _
  have k2 : Kb 0 w1 w2 := by rw [hw2]; exact kb_alloc _ _ _
  have b2 : w2.heap[w.heap.size + 1]? = some (.cells #[.bool false, .int .i64 0, .int .i64 0, .slice none 0 0] 51 (0, 0)) := by rw [hw2, ← z1]; exact alloc_new _ _ _
  have z2 : w2.heap.size = w.heap.size + 2 := by rw [hw2, World.size_alloc, z1]
  have b12 := (k2.block _ (Nat.zero_le _) (by omega)).trans b1
  have u0 : w2.cell? ⟨w.heap.size, 0, none⟩ = some (.slice p1 D.n c1) := cell_of b12 rfl
  have u1 : w2.cell? ⟨w.heap.size, 1, none⟩ = some (.slice p2 D.m c2) := cell_of b12 rfl
  have kw2 := k1.trans k2
  have HB : Hid (Kb 0 w w2 ∧ w2.heap[w.heap.size + 1]? = some (.cells #[.bool false, .int .i64 0, .int .i64 0, .slice none 0 0] 51 (0, 0)) ∧ w2.heap.size = w.heap.size + 2) := (⟨kw2, b2, z2⟩ : _ ∧ _)
  have HW2 : Hid (w2 = (w.alloc (.cells #[.slice p1 D.n c1, .slice p2 D.m c2] 30)).alloc (.cells #[.bool false, .int .i64 0, .int .i64 0, .slice none 0 0] 51)) := (by rw [hw2, hw1] : w2 = _)
  have HI := hh _ _ w2 (ha.keep kw2)
  clear hw1 hw2 k1 b1 z1 k2 b2 z2 b12 kw2 ha hh
  go_enter Try.func98, Try.ntmps98
  go_upto_region 1 with fail
  rw [← (show w2 = _ from HW2)]
  clear HW2
  go_wp2_with fail
  refine HI.mono ?_
  rintro e wA ⟨rfl, kA⟩
  obtain ⟨P5, hP5⟩ : ∃ P5, P5 = wA.heap.size := ⟨_, rfl⟩
  obtain ⟨w3, hw3⟩ : ∃ w3, w3 = wA.alloc (.cells #[.bool false, .int .i64 0, .int .i64 0, .int .i64 0] 46) := ⟨_, rfl⟩
  have k3 : Kb 0 w2 w3 := kA.trans (by rw [hw3]; exact kb_alloc _ _ _)
  have b5 : w3.heap[P5]? = some (.cells #[.bool false, .int .i64 0, .int .i64 0, .int .i64 0] 46 (0, 0)) := by rw [hw3, hP5]; exact alloc_new _ _ _
  have h0 : w3.cell? ⟨P5, 0, none⟩ = some (.bool false) := cell_of b5 rfl
  have HW3 : Hid (w3 = wA.alloc (.cells #[.bool false, .int .i64 0, .int .i64 0, .int .i64 0] 46) ∧ P5 = wA.heap.size) := (⟨hw3, hP5⟩ : _ ∧ _)
  have HK3 : Hid (Kb 0 w2 w3) := k3
  clear HI u0 u1 kA hP5 hw3 b5 k3
  go_upto_region 2 with fail
  rw [← (show _ ∧ _ from HW3).1, ← (show _ ∧ _ from HW3).2]
  clear HW3
  have k3 := (show Kb 0 w2 w3 from HK3)
  obtain ⟨kw2, b2, z2⟩ := (show _ ∧ _ ∧ _ from HB)
  have bq := (k3.block _ (Nat.zero_le _) (by omega)).trans b2
  obtain ⟨WF, hWF, bF, zF⟩ := four_set (.bool false) (.int .i64 0) (.int .i64 0) (.slice none 0 0) bq
  have f0 : WF.cell? ⟨w.heap.size + 1, 0, none⟩ = some (.bool false) := cell_of bF rfl
  have f1 : WF.cell? ⟨w.heap.size + 1, 1, none⟩ = some (.int .i64 0) := cell_of bF rfl
  have f2 : WF.cell? ⟨w.heap.size + 1, 2, none⟩ = some (.int .i64 0) := cell_of bF rfl
  have f3 : WF.cell? ⟨w.heap.size + 1, 3, none⟩ = some (.slice none 0 0) := cell_of bF rfl
  have a0 : w3.cell? ⟨w.heap.size + 1, 0, none⟩ = some (.bool false) := cell_of bq rfl
  have a1 : w3.cell? ⟨w.heap.size + 1, 1, none⟩ = some (.int .i64 0) := cell_of bq rfl
  have a2 : w3.cell? ⟨w.heap.size + 1, 2, none⟩ = some (.int .i64 0) := cell_of bq rfl
  have a3 : w3.cell? ⟨w.heap.size + 1, 3, none⟩ = some (.slice none 0 0) := cell_of bq rfl
  have fy : ∀ j, w3.frozen? ⟨w.heap.size + 1, j, none⟩ = false := fun j => frozen_of bq
  have HF : Hid (Kb 0 w WF) := zF.kb (kw2.trans k3) (by omega)
  have HWF : Hid (WF = _) := hWF
  clear hWF bF zF bq HB kw2 b2 z2 k3 HK3
  go_wp2_with fail
  rw [← (show WF = _ from HWF)]
  clear HWF
  refine bodyPost_ret (by simp [results, Try.results98, go_sem, f0, f1, f2, f3]; rfl) rfl ?_
  exact ⟨_, 0, rfl, rd_nil2 _, fun h => absurd h (Nat.lt_irrefl 0), HF⟩
set_option maxHeartbeats 32000000 in
theorem sp_img_b0 {v1 v2 : Value} {D : Dd} {G S : Int} {LN : Nat} (w : World) (ha : RowD 0 w v1 v2 D) (hok : Dok D) (hL0 : 0 < LN) (hLL : LN ≤ 8192) (hb : ∀ j, j < 8192 → 0 ≤ img (fun i => rdl (fun i => (D.B i).A) D.Q i D.m) 2 j ∧ img (fun i => rdl (fun i => (D.B i).A) D.Q i D.m) 2 j ≤ 255) (hsum : ¬ sgz (img (fun i => rdl (fun i => (D.B i).A) D.Q i D.m) 2) LN = S) (hh : ∀ x1 x2 W, RowD 0 W x1 x2 D → Calls Try.prog 59 #[.agg #[x1, x2], .int .i64 0] W fun e w' => e = .returned (.agg #[.bool true, .int .i64 G, .int .i64 (LN : Int), .int .i64 S]) ∧ Kb 0 W w') :
    Calls Try.prog 98 #[.agg #[v1, v2], .int .i64 0] w (KiP false 0 0 0 (fun _ => 0) w) := by
  obtain ⟨⟨p1, c1, rfl, -⟩, ⟨p2, c2, rfl, -⟩⟩ := id ha
  obtain ⟨w1, hw1⟩ : ∃ w1, w1 = w.alloc (.cells #[.slice p1 D.n c1, .slice p2 D.m c2] 30) := ⟨_, rfl⟩
  obtain ⟨w2, hw2⟩ : ∃ w2, w2 = w1.alloc (.cells #[.bool false, .int .i64 0, .int .i64 0, .slice none 0 0] 51) := ⟨_, rfl⟩
  have k1 : Kb 0 w w1 := by rw [hw1]; exact kb_alloc _ _ _
  have b1 : w1.heap[w.heap.size]? = some (.cells #[.slice p1 D.n c1, .slice p2 D.m c2] 30 (0, 0)) := by rw [hw1]; exact alloc_new _ _ _
  have z1 : w1.heap.size = w.heap.size + 1 := by rw [hw1]; exact World.size_alloc _ _
  have k2 : Kb 0 w1 w2 := by rw [hw2]; exact kb_alloc _ _ _
  have b2 : w2.heap[w.heap.size + 1]? = some (.cells #[.bool false, .int .i64 0, .int .i64 0, .slice none 0 0] 51 (0, 0)) := by rw [hw2, ← z1]; exact alloc_new _ _ _
  have z2 : w2.heap.size = w.heap.size + 2 := by rw [hw2, World.size_alloc, z1]
  have b12 := (k2.block _ (Nat.zero_le _) (by omega)).trans b1
  have u0 : w2.cell? ⟨w.heap.size, 0, none⟩ = some (.slice p1 D.n c1) := cell_of b12 rfl
  have u1 : w2.cell? ⟨w.heap.size, 1, none⟩ = some (.slice p2 D.m c2) := cell_of b12 rfl
  have kw2 := k1.trans k2
  have HB : Hid (Kb 0 w w2 ∧ w2.heap[w.heap.size + 1]? = some (.cells #[.bool false, .int .i64 0, .int .i64 0, .slice none 0 0] 51 (0, 0)) ∧ w2.heap.size = w.heap.size + 2) := (⟨kw2, b2, z2⟩ : _ ∧ _)
  have HW2 : Hid (w2 = (w.alloc (.cells #[.slice p1 D.n c1, .slice p2 D.m c2] 30)).alloc (.cells #[.bool false, .int .i64 0, .int .i64 0, .slice none 0 0] 51)) := (by rw [hw2, hw1] : w2 = _)
  have HI := hh _ _ w2 (ha.keep kw2)
  obtain ⟨PP, hPP⟩ : ∃ PP : Nat → Nat → Int, PP = fun i => rdl (fun i => (D.B i).A) D.Q i D.m := ⟨_, rfl⟩
  rw [← hPP] at hb hsum
  have HRD : Hid (∀ W, Kb 0 w2 W → ∀ i, i < 128 → Calls Try.prog 90 #[.agg #[.slice p1 D.n c1, .slice p2 D.m c2], .int .i64 ((2 + i : Nat) : Int)] W fun e w' => ∃ v g, e = .returned v ∧ OwnR w' v g 64 (ub (rdl (fun i => (D.B i).A) D.Q (2 + i) D.m)) ∧ (W.heap.size ≤ g ∧ g < w'.heap.size) ∧ Kb 0 W w') := (fun W k i hi => by
    have hra := ha.keep (kw2.trans k)
    obtain ⟨n, Bf, m, Qf⟩ := D
    obtain rfl : n = 258 := hok.1
    exact sp_l53read (2 + i) W hra hok (by omega) : ∀ W, _)
  have HPP : Hid (∀ i, pgl (PP i) = pgl (rdl (fun i => (D.B i).A) D.Q i D.m)) := (fun i => by rw [hPP] : ∀ i, _)
  have HHB : Hid (∀ j, j < 8192 → 0 ≤ img PP 2 j ∧ img PP 2 j ≤ 255) := hb
  obtain ⟨SM, hSM⟩ : ∃ SM, SM = sgz (img PP 2) LN := ⟨_, rfl⟩
  have HSW : Hid (IntKind.i64.wrap (smz (img PP 2) LN) = SM) := (by rw [hSM, w64i]; rfl : IntKind.i64.wrap (smz (img PP 2) LN) = SM)
  rw [← hSM] at hsum
  have hs2 : (SM != S) = true := by simp [hsum]
  have hLI : (LN : Int) ≤ 8192 := by omega
  have hL0I : (0 : Int) < (LN : Int) := by omega
  obtain ⟨i1, hi1, hz0, hz1, hz2⟩ := infoU8
  have HI1 : Hid (Try.prog.info? 5 = some i1) := hi1
  clear hw1 hw2 k1 b1 z1 k2 b2 z2 b12 kw2 ha hh hok hb hSM hsum hPP hi1
  go_enter Try.func98, Try.ntmps98
  go_upto_region 1 with fail
  rw [← (show w2 = _ from HW2)]
  clear HW2
  go_wp2_with fail
  refine HI.mono ?_
  rintro e wA ⟨rfl, kA⟩
  obtain ⟨P5, hP5⟩ : ∃ P5, P5 = wA.heap.size := ⟨_, rfl⟩
  obtain ⟨w3, hw3⟩ : ∃ w3, w3 = wA.alloc (.cells #[.bool true, .int .i64 G, .int .i64 (LN : Int), .int .i64 S] 46) := ⟨_, rfl⟩
  have k3 : Kb 0 w2 w3 := kA.trans (by rw [hw3]; exact kb_alloc _ _ _)
  have b5 : w3.heap[P5]? = some (.cells #[.bool true, .int .i64 G, .int .i64 (LN : Int), .int .i64 S] 46 (0, 0)) := by rw [hw3, hP5]; exact alloc_new _ _ _
  have h0 : w3.cell? ⟨P5, 0, none⟩ = some (.bool true) := cell_of b5 rfl
  have z3 : w3.heap.size = P5 + 1 := by rw [hw3, World.size_alloc, hP5]
  have HC5 : Hid (∀ W, Kb 0 w3 W → W.cell? ⟨P5, 1, none⟩ = some (.int .i64 G) ∧ W.cell? ⟨P5, 2, none⟩ = some (.int .i64 (LN : Int)) ∧ W.cell? ⟨P5, 3, none⟩ = some (.int .i64 S)) := (fun W k => ⟨k.cell (cell_of b5 rfl), k.cell (cell_of b5 rfl), k.cell (cell_of b5 rfl)⟩ : ∀ W, _)
  have HW3 : Hid (w3 = wA.alloc (.cells #[.bool true, .int .i64 G, .int .i64 (LN : Int), .int .i64 S] 46) ∧ P5 = wA.heap.size) := (⟨hw3, hP5⟩ : _ ∧ _)
  have HU : Hid (∀ W, Kb 0 w2 W → W.cell? ⟨w.heap.size, 0, none⟩ = some (.slice p1 D.n c1) ∧ W.cell? ⟨w.heap.size, 1, none⟩ = some (.slice p2 D.m c2)) := (fun W k => ⟨k.cell u0, k.cell u1⟩ : ∀ W, _)
  have HK3 : Hid (Kb 0 w2 w3 ∧ w2.heap.size ≤ P5 ∧ w3.heap.size = P5 + 1) := (⟨k3, by rw [hP5]; exact kA.size, z3⟩ : _ ∧ _)
  have HI0 : Hid (w3.ownsRow (P5 + 1) 5 1 (.slice none 0 0) (0 * 64) (il PP 2 0) ∧ Kb 0 w3 w3) := (⟨World.ownsRow_nil _ _ _ _, Kb.refl _ _⟩ : _ ∧ _)
  clear HI u0 u1 kA hP5 hw3 b5 k3 z3
  go_upto_region 2 with fail
  rw [← (show _ ∧ _ from HW3).1, ← (show _ ∧ _ from HW3).2]
  clear HW3
  go_wp2_with fail
  clear h0
  go_loopw [6, 7] (fun s6 s7 wr => ∃ (i : Nat) (v : Value), s6 = v ∧ s7 = .int .i64 (i : Int) ∧ i ≤ 128 ∧ i * 64 < LN + 64 ∧ Hid (wr.ownsRow (P5 + 1) 5 1 v (i * 64) (il PP 2 i) ∧ Kb 0 w3 wr)) (fun _ s7 _ => 128 - (intOf s7).toNat)
  case atStart => exact ⟨0, _, rfl, rfl, Nat.zero_le _, by omega, HI0⟩
  case round =>
    clear HI0
    obtain ⟨i, v, rfl, rfl, hil, hiL, HX⟩ := hrel
    obtain ⟨hro, hkb⟩ := (show _ ∧ _ from HX)
    obtain ⟨pl, cl, rfl⟩ := own_shape hro
    clear HX
    obtain ⟨c1', c2', c3'⟩ := (show ∀ W, Kb 0 w3 W → _ from HC5) wr hkb
    have hcast : (((i * 64 : Nat)) : Int) = (i : Int) * 64 := by omega
    by_cases hi : i * 64 < LN
    case neg =>
      have hge : ¬ (((i * 64 : Nat)) : Int) < (LN : Int) := by omega
      have hi0 : 0 < i * 64 := by omega
      obtain ⟨g, cap, eg, hgd, hgc, hcell⟩ := own_cells hro hi0
      injection eg with eg1 _ eg3
      subst eg1
      subst eg3
      have hglt := hro.lt g (by rfl)
      have hfz := fun j => hro.frozenAt (g := g) j
      have hNC : LN ≤ cl := by omega
      have hrow : ∀ W, Kb 0 wr W → RowV W (.slice (some ⟨g, 0, none⟩) LN cl) LN (fun j => .int .u8 (img PP 2 j)) := fun W k => ⟨_, _, rfl, fun _ => ⟨_, rfl, hNC, fun j hj => by
        rw [addr0]
        refine k.cell ?_
        rw [hcell j (by omega), il_at PP 2 i j (by omega)]⟩⟩
      obtain ⟨pl, hpl⟩ : ∃ pl, pl = some (⟨g, 0, none⟩ : Addr) := ⟨_, rfl⟩
      have HSM : Hid (∀ W, Kb 0 wr W → Calls Try.prog 101 #[.slice pl LN cl] W fun e w' => e = .returned (.int .u64 (smz (img PP 2) LN)) ∧ w' = W) := (fun W k => by rw [hpl]; exact sp_sum W (hrow W k) (by omega) (fun j hj => (show ∀ j, j < 8192 → _ from HHB) j (by omega)) : ∀ W, _)
      have HCP : Hid (∀ W, Kb 0 wr W → Calls Try.prog 45 #[.slice pl LN cl] W fun e w' => ∃ v g, e = .returned v ∧ OwnR w' v g LN (ub (img PP 2)) ∧ (0 < LN → W.heap.size ≤ g ∧ g < w'.heap.size) ∧ Kb 0 W w') := (fun W k => by rw [hpl]; exact sp_copy W (hrow W k) (by omega) : ∀ W, _)
      have HK2R : Hid (Kb 0 w2 wr) := (show _ ∧ _ from HK3).1.trans hkb
      have HPL : Hid (pl = some (⟨g, 0, none⟩ : Addr)) := hpl
      have HNC : Hid (LN ≤ cl ∧ i ≤ 128) := (⟨hNC, hil⟩ : _ ∧ _)
      have hNCI : (LN : Int) ≤ (cl : Int) := by omega
      clear hro hkb hgd hgc hcell hglt hrow hil hiL hi hi0 hfz HRD HPP HHB HU HI1 hz0 hz1 hz2 hpl HK3 HC5
      go_upto_region 10 with (first | fail)
      rw [← (show pl = _ from HPL)]
      refine AnyL.region (S := fun W' => W'.cell? ⟨P5, 3, none⟩ = some (.int .i64 S)) (z := 100) (by kernel_rfl) ?_
      have hS0 : (fun W' : World => W'.cell? ⟨P5, 3, none⟩ = some (.int .i64 S)) wr.drew := c3'
      have HKD : Hid (Kb 0 wr wr.drew) := (Kb.drewN (Kb.refl _ _) 1 : Kb 0 wr wr.drew)
      have hT00 : wr.drew.cell? ⟨P5, 1, none⟩ = some (.int .i64 G) := c1'
      obtain ⟨W0, hW0⟩ : ∃ W0, W0 = wr.drew := ⟨_, rfl⟩
      rw [← hW0] at HKD hS0 hT00 ⊢
      clear hW0 c1' c2' c3'
      refine AnyL.takeAt 0 (.slice pl LN cl) rfl (by kernel_rfl) (by kernel_rfl) (by kernel_rfl) (by kernel_rfl) (fun _ _ _ h => h) rfl hS0 (by intro W hW; go_simp) ?_
      try simp only [Act.put, List.setIfInBounds_toArray, List.set_cons_zero, List.set_cons_succ]
      refine AnyL.takeAt 3 (.pointer (some ⟨P5, 3, none⟩)) rfl (by kernel_rfl) (by kernel_rfl) (by kernel_rfl) (by kernel_rfl) (fun _ _ _ h => h) rfl hS0 (by intro W hW; go_simp) ?_
      try simp only [Act.put, List.setIfInBounds_toArray, List.set_cons_zero, List.set_cons_succ]
      refine AnyL.takeAt 4 (.int .i64 S) rfl (by kernel_rfl) (by kernel_rfl) (by kernel_rfl) (by kernel_rfl) (fun _ _ _ h => h) rfl hS0 (by intro W hW; go_simp) ?_
      try simp only [Act.put, List.setIfInBounds_toArray, List.set_cons_zero, List.set_cons_succ]
      refine AnyL.oneAt 1 rfl (by kernel_rfl) rfl ?_
      intro K hK
      go_simp
      refine ((show ∀ W, Kb 0 wr W → _ from HSM) W0 HKD).mono ?_
      rintro e W1 ⟨rfl, hW1⟩
      rw [hW1]
      clear hW1
      refine hK.out _ _ (fun _ => hS0) ?_
      clear hK K
      try simp only [Act.put, List.setIfInBounds_toArray, List.set_cons_zero, List.set_cons_succ]
      refine AnyL.takeAt 2 (.int .i64 SM) rfl (by kernel_rfl) (by kernel_rfl) (by kernel_rfl) (by kernel_rfl) (fun _ _ _ h => h) rfl hS0 (by intro W hW; go_simp; first | done | (rw [show IntKind.i64.wrap (smz (img PP 2) LN) = SM from HSW]) | (simp [show IntKind.i64.wrap (smz (img PP 2) LN) = SM from HSW])) ?_
      try simp only [Act.put, List.setIfInBounds_toArray, List.set_cons_zero, List.set_cons_succ]
      refine AnyL.takeAt 5 (.bool (SM != S)) rfl (by kernel_rfl) (by kernel_rfl) (by kernel_rfl) (by kernel_rfl) (fun _ _ _ h => h) rfl hS0 (by intro W hW; go_simp) ?_
      try simp only [Act.put, List.setIfInBounds_toArray, List.set_cons_zero, List.set_cons_succ]
      refine AnyL.done (by kernel_rfl) ?_
      rw [hs2]
      have k0 := (show Kb 0 w2 wr from HK2R).trans (show Kb 0 wr W0 from HKD)
      obtain ⟨kw2, b2, z2⟩ := (show _ ∧ _ ∧ _ from HB)
      have bq := (k0.block _ (Nat.zero_le _) (by omega)).trans b2
      obtain ⟨WF, hWF, bF, zF⟩ := four_set (.bool false) (.int .i64 0) (.int .i64 0) (.slice none 0 0) bq
      have f0 : WF.cell? ⟨w.heap.size + 1, 0, none⟩ = some (.bool false) := cell_of bF rfl
      have f1 : WF.cell? ⟨w.heap.size + 1, 1, none⟩ = some (.int .i64 0) := cell_of bF rfl
      have f2 : WF.cell? ⟨w.heap.size + 1, 2, none⟩ = some (.int .i64 0) := cell_of bF rfl
      have f3 : WF.cell? ⟨w.heap.size + 1, 3, none⟩ = some (.slice none 0 0) := cell_of bF rfl
      have a0 : W0.cell? ⟨w.heap.size + 1, 0, none⟩ = some (.bool false) := cell_of bq rfl
      have a1 : W0.cell? ⟨w.heap.size + 1, 1, none⟩ = some (.int .i64 0) := cell_of bq rfl
      have a2 : W0.cell? ⟨w.heap.size + 1, 2, none⟩ = some (.int .i64 0) := cell_of bq rfl
      have a3 : W0.cell? ⟨w.heap.size + 1, 3, none⟩ = some (.slice none 0 0) := cell_of bq rfl
      have fy : ∀ j, W0.frozen? ⟨w.heap.size + 1, j, none⟩ = false := fun j => frozen_of bq
      have HF : Hid (Kb 0 w WF) := zF.kb (kw2.trans k0) (by omega)
      have HWF : Hid (WF = _) := hWF
      clear hWF bF zF bq HB kw2 b2 z2 k0 hS0 HKD HK2R HSM HCP hT00
      go_wp2_with fail
      rw [← (show WF = _ from HWF)]
      clear HWF
      refine bodyPost_ret (by simp [results, Try.results98, go_sem, f0, f1, f2, f3]; rfl) rfl ?_
      exact ⟨_, 0, rfl, rd_nil2 _, fun h => absurd h (Nat.lt_irrefl 0), HF⟩
    have hlt : (((i * 64 : Nat)) : Int) < (LN : Int) := by omega
    have hi128 : i < 128 := by omega
    have hiI : (i : Int) < 128 := by omega
    obtain ⟨PC, hPC⟩ : ∃ PC, PC = il PP 2 i := ⟨_, rfl⟩
    have HST : Hid (∀ W6 gz cz, Kb 0 wr W6 → OwnR W6 (.slice (some ⟨gz, 0, none⟩) 64 cz) gz 64 (ub (rdl (fun i => (D.B i).A) D.Q (2 + i) D.m)) → W6.ownsRow (P5 + 1) 5 1 (.slice pl (i * 64) cl) (i * 64) PC ∧ P5 + 1 ≤ W6.heap.size ∧ ∀ (W8 : World) (g cap : Nat), W8.ownsRow (P5 + 1) 5 1 (.slice (some ⟨g, 0, none⟩) (i * 64 + 64) cap) (i * 64 + 64) (PC ++ pgl (rdl (fun i => (D.B i).A) D.Q (2 + i) D.m)) → W6.grownBy W8 (Value.slice pl (i * 64) cl).ownBlock → W8.ownsRow (P5 + 1) 5 1 (.slice (some ⟨g, 0, none⟩) (i * 64 + 64) cap) ((i + 1) * 64) (il PP 2 (i + 1)) ∧ Kb 0 w3 W8 ∧ W8.cell? ⟨w.heap.size, 0, none⟩ = some (.slice p1 D.n c1) ∧ W8.cell? ⟨w.heap.size, 1, none⟩ = some (.slice p2 D.m c2)) := (fun W6 gz cz k6 oz => by
      obtain ⟨k23, hle5, z3⟩ := (show _ ∧ _ ∧ _ from HK3)
      have k36 := hkb.trans k6
      have z36 := k36.size
      refine ⟨by rw [hPC]; exact own_keep hro (fun q hq => k6.block q (Nat.zero_le _) (hro.lt q hq).2), by omega, fun W8 g cap h8 g8 => ?_⟩
      have k38 : Kb 0 w3 W8 := ⟨by rw [g8.os]; exact k36.os, by rw [g8.output]; exact k36.output, Nat.le_trans k36.size g8.size, fun q h1 h2 => (g8.block q (by omega) (fun e => by have := (hro.lt q e.symm).1; omega)).trans (k36.block q h1 h2)⟩
      refine ⟨?_, k38, (show ∀ W, Kb 0 w2 W → _ from HU) W8 (k23.trans k38)⟩
      rw [il, ← hPC, (show ∀ i, _ from HPP) (2 + i), Nat.add_mul, Nat.one_mul]
      exact h8 : ∀ W6 gz cz, _)
    have HK3R : Hid (Kb 0 w2 wr) := (show _ ∧ _ from HK3).1.trans hkb
    obtain ⟨u0, u1⟩ := (show ∀ W, Kb 0 w2 W → _ from HU) wr HK3R
    clear hro hkb hPC hil c1' c3'
    go_upto_region 8 with fail
    refine AnyL.region (S := fun W' => W'.cell? ⟨w.heap.size, 0, none⟩ = some (.slice p1 D.n c1) ∧ W'.cell? ⟨w.heap.size, 1, none⟩ = some (.slice p2 D.m c2)) (z := 100) (by kernel_rfl) ?_
    have hS0 : (fun W' : World => W'.cell? ⟨w.heap.size, 0, none⟩ = some (.slice p1 D.n c1) ∧ W'.cell? ⟨w.heap.size, 1, none⟩ = some (.slice p2 D.m c2)) wr.drew := ⟨u0, u1⟩
    have HKR : Hid (Kb 0 wr wr.drew) := (Kb.drewN (Kb.refl _ _) 1 : Kb 0 wr wr.drew)
    have HKD : Hid (Kb 0 w2 wr.drew) := (show Kb 0 w2 wr from HK3R).trans (Kb.drewN (Kb.refl _ _) 1)
    obtain ⟨W0, hW0⟩ : ∃ W0, W0 = wr.drew := ⟨_, rfl⟩
    rw [← hW0] at HKD HKR hS0 ⊢
    clear hW0 u0 u1 c2'
    refine AnyL.takeAt 0 (.slice pl (i * 64) cl) rfl (by kernel_rfl) (by kernel_rfl) (by kernel_rfl) (by kernel_rfl) (fun _ _ _ h => h) rfl hS0 (by intro W hW; first | go_simp | (obtain ⟨i0, i1⟩ := hW; go_simp)) ?_
    try simp only [Act.put, List.setIfInBounds_toArray, List.set_cons_zero, List.set_cons_succ]
    refine AnyL.takeAt 1 (.agg #[.slice p1 D.n c1, .slice p2 D.m c2]) rfl (by kernel_rfl) (by kernel_rfl) (by kernel_rfl) (by kernel_rfl) (fun _ _ _ h => h) rfl hS0 (by intro W hW; first | go_simp | (obtain ⟨i0, i1⟩ := hW; go_simp)) ?_
    try simp only [Act.put, List.setIfInBounds_toArray, List.set_cons_zero, List.set_cons_succ]
    refine AnyL.takeAt 2 (.int .i64 0) rfl (by kernel_rfl) (by kernel_rfl) (by kernel_rfl) (by kernel_rfl) (fun _ _ _ h => h) rfl hS0 (by intro W hW; first | go_simp | (obtain ⟨i0, i1⟩ := hW; go_simp)) ?_
    try simp only [Act.put, List.setIfInBounds_toArray, List.set_cons_zero, List.set_cons_succ]
    refine AnyL.takeAt 4 (.int .i64 (i : Int)) rfl (by kernel_rfl) (by kernel_rfl) (by kernel_rfl) (by kernel_rfl) (fun _ _ _ h => h) rfl hS0 (by intro W hW; first | go_simp | (obtain ⟨i0, i1⟩ := hW; go_simp)) ?_
    try simp only [Act.put, List.setIfInBounds_toArray, List.set_cons_zero, List.set_cons_succ]
    refine AnyL.oneAt 3 rfl (by kernel_rfl) rfl ?_
    intro K hK
    go_simp
    refine (sp_first0 W0).mono ?_
    rintro e W1 ⟨rfl, hW1⟩
    rw [hW1]
    clear hW1
    refine hK.out _ _ (fun _ => hS0) ?_
    clear hK K
    try simp only [Act.put, List.setIfInBounds_toArray, List.set_cons_zero, List.set_cons_succ]
    refine AnyL.takeAt 5 (.int .i64 ((2 + i : Nat) : Int)) rfl (by kernel_rfl) (by kernel_rfl) (by kernel_rfl) (by kernel_rfl) (fun _ _ _ h => h) rfl hS0 (by intro W hW; go_simp; rw [w64i]; unfold wrap64; omega) ?_
    try simp only [Act.put, List.setIfInBounds_toArray, List.set_cons_zero, List.set_cons_succ]
    refine AnyL.oneAt 6 rfl (by kernel_rfl) rfl ?_
    intro K hK
    go_simp
    refine ((show ∀ W, Kb 0 w2 W → ∀ i, i < 128 → _ from HRD) W0 HKD i hi128).mono ?_
    rintro e W6 ⟨vz, gz, rfl, oz, hgz, kz⟩
    obtain ⟨pz, cz, rfl, hpz⟩ := oz.sl
    obtain ⟨rfl, hcz⟩ := hpz (by omega)
    have hS6 : (fun W' : World => W'.cell? ⟨w.heap.size, 0, none⟩ = some (.slice p1 D.n c1) ∧ W'.cell? ⟨w.heap.size, 1, none⟩ = some (.slice p2 D.m c2)) W6 := ⟨kz.cell hS0.1, kz.cell hS0.2⟩
    obtain ⟨hown6, h6z, HNX⟩ := (show ∀ W6 gz cz, _ from HST) W6 gz cz ((show Kb 0 wr W0 from HKR).trans kz) oz
    have HNX : Hid (∀ (W8 : World) (g cap : Nat), _) := HNX
    have HOZ : Hid ((∀ j u, (pgl (rdl (fun i => (D.B i).A) D.Q (2 + i) D.m))[j]? = some u → W6.cell? ((⟨gz, 0, none⟩ : Addr).add j) = some u)) := (fun j u hu => by
      have hj : j < 64 := by have := (List.getElem?_eq_some_iff.1 hu).1; rw [pgl_len] at this; exact this
      rw [pgl_at _ j hj] at hu
      injection hu with hu
      rw [addr0, oz.cell j hj, ← hu]
      rfl : ∀ j u, _)
    have HG6 : Hid (Kb 0 w2 W6 ∧ gz < W6.heap.size ∧ wr.heap.size ≤ gz) := (⟨(show Kb 0 w2 W0 from HKD).trans kz, hgz.2, by have := (show Kb 0 wr W0 from HKR).size; omega⟩ : _ ∧ _)
    clear HRD HST oz hgz kz hpz HKD HKR hS0
    refine hK.out _ _ (fun _ => hS6) ?_
    clear hK K
    try simp only [Act.put, List.setIfInBounds_toArray, List.set_cons_zero, List.set_cons_succ]
    refine AnyL.oneAt 7 rfl (by kernel_rfl) rfl ?_
    intro K hK
    refine wp_append_lies _ (.tmp 22) (.tmp 28) 26 rfl (P5 + 1) 5 i1 (.int .u8 0) 1 1 Try.underlying26 HI1 hz0 hz1 hz2 rfl (by decide) (.slice pl (i * 64) cl) (i * 64) PC rfl hown6 ⟨gz, 0, none⟩ 64 cz (pgl (rdl (fun i => (D.B i).A) D.Q (2 + i) D.m)) rfl (by rw [pgl_len]) HOZ (pgl_one _) (by decide) (by unfold maxLen; omega) (by omega) h6z _ rfl ?_
    intro g' cap' w8 hown1 hgrow1 hat hlt
    have HN := (show ∀ (W8 : World) (g cap : Nat), _ from HNX) w8 g' cap' hown1 hgrow1
    have hS8 : (fun W' : World => W'.cell? ⟨w.heap.size, 0, none⟩ = some (.slice p1 D.n c1) ∧ W'.cell? ⟨w.heap.size, 1, none⟩ = some (.slice p2 D.m c2)) w8 := HN.2.2
    have HN2 : Hid (w8.ownsRow (P5 + 1) 5 1 (.slice (some ⟨g', 0, none⟩) (i * 64 + 64) cap') ((i + 1) * 64) (il PP 2 (i + 1)) ∧ Kb 0 w3 w8) := (⟨HN.1, HN.2.1⟩ : _ ∧ _)
    clear hown1 hgrow1 hat hlt HNX HOZ HG6 hS6 HN hown6 h6z
    refine hK.out _ _ (fun _ => hS8) ?_
    clear hK K
    try simp only [Act.put, List.setIfInBounds_toArray, List.set_cons_zero, List.set_cons_succ]
    refine AnyL.takeAt 8 (.slice (some ⟨g', 0, none⟩) (i * 64 + 64) cap') rfl (by kernel_rfl) (by kernel_rfl) (by kernel_rfl) (by kernel_rfl) (fun _ _ _ h => h) rfl hS8 (by intro W hW; first | go_simp | (obtain ⟨i0, i1⟩ := hW; go_simp)) ?_
    try simp only [Act.put, List.setIfInBounds_toArray, List.set_cons_zero, List.set_cons_succ]
    refine AnyL.done (by kernel_rfl) ?_
    go_wp2_with fail
    go_roundw
    case rel => exact ⟨i + 1, _, rfl, by go_num, by omega, by omega, by have e : (i + 1) * 64 = i * 64 + 64 := by omega
                                                                        rw [e] at HN2 ⊢
                                                                        exact HN2⟩
    case measure => simp [intOf]; omega
set_option maxHeartbeats 32000000 in
theorem sp_img_c0 {v1 v2 : Value} {D : Dd} {G S : Int} {LN : Nat} (w : World) (ha : RowD 0 w v1 v2 D) (hok : Dok D) (hL0 : 0 < LN) (hLL : LN ≤ 8192) (hb : ∀ j, j < 8192 → 0 ≤ img (fun i => rdl (fun i => (D.B i).A) D.Q i D.m) 2 j ∧ img (fun i => rdl (fun i => (D.B i).A) D.Q i D.m) 2 j ≤ 255) (hsum : sgz (img (fun i => rdl (fun i => (D.B i).A) D.Q i D.m) 2) LN = S) (hh : ∀ x1 x2 W, RowD 0 W x1 x2 D → Calls Try.prog 59 #[.agg #[x1, x2], .int .i64 0] W fun e w' => e = .returned (.agg #[.bool true, .int .i64 G, .int .i64 (LN : Int), .int .i64 S]) ∧ Kb 0 W w') :
    Calls Try.prog 98 #[.agg #[v1, v2], .int .i64 0] w (KiP true G 0 LN (img (fun i => rdl (fun i => (D.B i).A) D.Q i D.m) 2) w) := by
  obtain ⟨⟨p1, c1, rfl, -⟩, ⟨p2, c2, rfl, -⟩⟩ := id ha
  obtain ⟨w1, hw1⟩ : ∃ w1, w1 = w.alloc (.cells #[.slice p1 D.n c1, .slice p2 D.m c2] 30) := ⟨_, rfl⟩
  obtain ⟨w2, hw2⟩ : ∃ w2, w2 = w1.alloc (.cells #[.bool false, .int .i64 0, .int .i64 0, .slice none 0 0] 51) := ⟨_, rfl⟩
  have k1 : Kb 0 w w1 := by rw [hw1]; exact kb_alloc _ _ _
  have b1 : w1.heap[w.heap.size]? = some (.cells #[.slice p1 D.n c1, .slice p2 D.m c2] 30 (0, 0)) := by rw [hw1]; exact alloc_new _ _ _
  have z1 : w1.heap.size = w.heap.size + 1 := by rw [hw1]; exact World.size_alloc _ _
  have k2 : Kb 0 w1 w2 := by rw [hw2]; exact kb_alloc _ _ _
  have b2 : w2.heap[w.heap.size + 1]? = some (.cells #[.bool false, .int .i64 0, .int .i64 0, .slice none 0 0] 51 (0, 0)) := by rw [hw2, ← z1]; exact alloc_new _ _ _
  have z2 : w2.heap.size = w.heap.size + 2 := by rw [hw2, World.size_alloc, z1]
  have b12 := (k2.block _ (Nat.zero_le _) (by omega)).trans b1
  have u0 : w2.cell? ⟨w.heap.size, 0, none⟩ = some (.slice p1 D.n c1) := cell_of b12 rfl
  have u1 : w2.cell? ⟨w.heap.size, 1, none⟩ = some (.slice p2 D.m c2) := cell_of b12 rfl
  have kw2 := k1.trans k2
  have HB : Hid (Kb 0 w w2 ∧ w2.heap[w.heap.size + 1]? = some (.cells #[.bool false, .int .i64 0, .int .i64 0, .slice none 0 0] 51 (0, 0)) ∧ w2.heap.size = w.heap.size + 2) := (⟨kw2, b2, z2⟩ : _ ∧ _)
  have HW2 : Hid (w2 = (w.alloc (.cells #[.slice p1 D.n c1, .slice p2 D.m c2] 30)).alloc (.cells #[.bool false, .int .i64 0, .int .i64 0, .slice none 0 0] 51)) := (by rw [hw2, hw1] : w2 = _)
  have HI := hh _ _ w2 (ha.keep kw2)
  obtain ⟨PP, hPP⟩ : ∃ PP : Nat → Nat → Int, PP = fun i => rdl (fun i => (D.B i).A) D.Q i D.m := ⟨_, rfl⟩
  rw [← hPP] at hb hsum ⊢
  have HRD : Hid (∀ W, Kb 0 w2 W → ∀ i, i < 128 → Calls Try.prog 90 #[.agg #[.slice p1 D.n c1, .slice p2 D.m c2], .int .i64 ((2 + i : Nat) : Int)] W fun e w' => ∃ v g, e = .returned v ∧ OwnR w' v g 64 (ub (rdl (fun i => (D.B i).A) D.Q (2 + i) D.m)) ∧ (W.heap.size ≤ g ∧ g < w'.heap.size) ∧ Kb 0 W w') := (fun W k i hi => by
    have hra := ha.keep (kw2.trans k)
    obtain ⟨n, Bf, m, Qf⟩ := D
    obtain rfl : n = 258 := hok.1
    exact sp_l53read (2 + i) W hra hok (by omega) : ∀ W, _)
  have HPP : Hid (∀ i, pgl (PP i) = pgl (rdl (fun i => (D.B i).A) D.Q i D.m)) := (fun i => by rw [hPP] : ∀ i, _)
  have HHB : Hid (∀ j, j < 8192 → 0 ≤ img PP 2 j ∧ img PP 2 j ≤ 255) := hb
  obtain ⟨SM, hSM⟩ : ∃ SM, SM = sgz (img PP 2) LN := ⟨_, rfl⟩
  have HSW : Hid (IntKind.i64.wrap (smz (img PP 2) LN) = SM) := (by rw [hSM, w64i]; rfl : IntKind.i64.wrap (smz (img PP 2) LN) = SM)
  rw [← hSM] at hsum
  have hs2 : (SM != S) = false := by simp [hsum]
  have hLI : (LN : Int) ≤ 8192 := by omega
  have hL0I : (0 : Int) < (LN : Int) := by omega
  obtain ⟨i1, hi1, hz0, hz1, hz2⟩ := infoU8
  have HI1 : Hid (Try.prog.info? 5 = some i1) := hi1
  clear hw1 hw2 k1 b1 z1 k2 b2 z2 b12 kw2 ha hh hok hb hSM hsum hPP hi1
  go_enter Try.func98, Try.ntmps98
  go_upto_region 1 with fail
  rw [← (show w2 = _ from HW2)]
  clear HW2
  go_wp2_with fail
  refine HI.mono ?_
  rintro e wA ⟨rfl, kA⟩
  obtain ⟨P5, hP5⟩ : ∃ P5, P5 = wA.heap.size := ⟨_, rfl⟩
  obtain ⟨w3, hw3⟩ : ∃ w3, w3 = wA.alloc (.cells #[.bool true, .int .i64 G, .int .i64 (LN : Int), .int .i64 S] 46) := ⟨_, rfl⟩
  have k3 : Kb 0 w2 w3 := kA.trans (by rw [hw3]; exact kb_alloc _ _ _)
  have b5 : w3.heap[P5]? = some (.cells #[.bool true, .int .i64 G, .int .i64 (LN : Int), .int .i64 S] 46 (0, 0)) := by rw [hw3, hP5]; exact alloc_new _ _ _
  have h0 : w3.cell? ⟨P5, 0, none⟩ = some (.bool true) := cell_of b5 rfl
  have z3 : w3.heap.size = P5 + 1 := by rw [hw3, World.size_alloc, hP5]
  have HC5 : Hid (∀ W, Kb 0 w3 W → W.cell? ⟨P5, 1, none⟩ = some (.int .i64 G) ∧ W.cell? ⟨P5, 2, none⟩ = some (.int .i64 (LN : Int)) ∧ W.cell? ⟨P5, 3, none⟩ = some (.int .i64 S)) := (fun W k => ⟨k.cell (cell_of b5 rfl), k.cell (cell_of b5 rfl), k.cell (cell_of b5 rfl)⟩ : ∀ W, _)
  have HW3 : Hid (w3 = wA.alloc (.cells #[.bool true, .int .i64 G, .int .i64 (LN : Int), .int .i64 S] 46) ∧ P5 = wA.heap.size) := (⟨hw3, hP5⟩ : _ ∧ _)
  have HU : Hid (∀ W, Kb 0 w2 W → W.cell? ⟨w.heap.size, 0, none⟩ = some (.slice p1 D.n c1) ∧ W.cell? ⟨w.heap.size, 1, none⟩ = some (.slice p2 D.m c2)) := (fun W k => ⟨k.cell u0, k.cell u1⟩ : ∀ W, _)
  have HK3 : Hid (Kb 0 w2 w3 ∧ w2.heap.size ≤ P5 ∧ w3.heap.size = P5 + 1) := (⟨k3, by rw [hP5]; exact kA.size, z3⟩ : _ ∧ _)
  have HI0 : Hid (w3.ownsRow (P5 + 1) 5 1 (.slice none 0 0) (0 * 64) (il PP 2 0) ∧ Kb 0 w3 w3) := (⟨World.ownsRow_nil _ _ _ _, Kb.refl _ _⟩ : _ ∧ _)
  clear HI u0 u1 kA hP5 hw3 b5 k3 z3
  go_upto_region 2 with fail
  rw [← (show _ ∧ _ from HW3).1, ← (show _ ∧ _ from HW3).2]
  clear HW3
  go_wp2_with fail
  clear h0
  go_loopw [6, 7] (fun s6 s7 wr => ∃ (i : Nat) (v : Value), s6 = v ∧ s7 = .int .i64 (i : Int) ∧ i ≤ 128 ∧ i * 64 < LN + 64 ∧ Hid (wr.ownsRow (P5 + 1) 5 1 v (i * 64) (il PP 2 i) ∧ Kb 0 w3 wr)) (fun _ s7 _ => 128 - (intOf s7).toNat)
  case atStart => exact ⟨0, _, rfl, rfl, Nat.zero_le _, by omega, HI0⟩
  case round =>
    clear HI0
    obtain ⟨i, v, rfl, rfl, hil, hiL, HX⟩ := hrel
    obtain ⟨hro, hkb⟩ := (show _ ∧ _ from HX)
    obtain ⟨pl, cl, rfl⟩ := own_shape hro
    clear HX
    obtain ⟨c1', c2', c3'⟩ := (show ∀ W, Kb 0 w3 W → _ from HC5) wr hkb
    have hcast : (((i * 64 : Nat)) : Int) = (i : Int) * 64 := by omega
    by_cases hi : i * 64 < LN
    case neg =>
      have hge : ¬ (((i * 64 : Nat)) : Int) < (LN : Int) := by omega
      have hi0 : 0 < i * 64 := by omega
      obtain ⟨g, cap, eg, hgd, hgc, hcell⟩ := own_cells hro hi0
      injection eg with eg1 _ eg3
      subst eg1
      subst eg3
      have hglt := hro.lt g (by rfl)
      have hfz := fun j => hro.frozenAt (g := g) j
      have hNC : LN ≤ cl := by omega
      have hrow : ∀ W, Kb 0 wr W → RowV W (.slice (some ⟨g, 0, none⟩) LN cl) LN (fun j => .int .u8 (img PP 2 j)) := fun W k => ⟨_, _, rfl, fun _ => ⟨_, rfl, hNC, fun j hj => by
        rw [addr0]
        refine k.cell ?_
        rw [hcell j (by omega), il_at PP 2 i j (by omega)]⟩⟩
      obtain ⟨pl, hpl⟩ : ∃ pl, pl = some (⟨g, 0, none⟩ : Addr) := ⟨_, rfl⟩
      have HSM : Hid (∀ W, Kb 0 wr W → Calls Try.prog 101 #[.slice pl LN cl] W fun e w' => e = .returned (.int .u64 (smz (img PP 2) LN)) ∧ w' = W) := (fun W k => by rw [hpl]; exact sp_sum W (hrow W k) (by omega) (fun j hj => (show ∀ j, j < 8192 → _ from HHB) j (by omega)) : ∀ W, _)
      have HCP : Hid (∀ W, Kb 0 wr W → Calls Try.prog 45 #[.slice pl LN cl] W fun e w' => ∃ v g, e = .returned v ∧ OwnR w' v g LN (ub (img PP 2)) ∧ (0 < LN → W.heap.size ≤ g ∧ g < w'.heap.size) ∧ Kb 0 W w') := (fun W k => by rw [hpl]; exact sp_copy W (hrow W k) (by omega) : ∀ W, _)
      have HK2R : Hid (Kb 0 w2 wr) := (show _ ∧ _ from HK3).1.trans hkb
      have HPL : Hid (pl = some (⟨g, 0, none⟩ : Addr)) := hpl
      have HNC : Hid (LN ≤ cl ∧ i ≤ 128) := (⟨hNC, hil⟩ : _ ∧ _)
      have hNCI : (LN : Int) ≤ (cl : Int) := by omega
      clear hro hkb hgd hgc hcell hglt hrow hil hiL hi hi0 hfz HRD HPP HHB HU HI1 hz0 hz1 hz2 hpl HK3 HC5
      go_upto_region 10 with (first | fail)
      rw [← (show pl = _ from HPL)]
      refine AnyL.region (S := fun W' => W'.cell? ⟨P5, 3, none⟩ = some (.int .i64 S)) (z := 100) (by kernel_rfl) ?_
      have hS0 : (fun W' : World => W'.cell? ⟨P5, 3, none⟩ = some (.int .i64 S)) wr.drew := c3'
      have HKD : Hid (Kb 0 wr wr.drew) := (Kb.drewN (Kb.refl _ _) 1 : Kb 0 wr wr.drew)
      have hT00 : wr.drew.cell? ⟨P5, 1, none⟩ = some (.int .i64 G) := c1'
      obtain ⟨W0, hW0⟩ : ∃ W0, W0 = wr.drew := ⟨_, rfl⟩
      rw [← hW0] at HKD hS0 hT00 ⊢
      clear hW0 c1' c2' c3'
      refine AnyL.takeAt 0 (.slice pl LN cl) rfl (by kernel_rfl) (by kernel_rfl) (by kernel_rfl) (by kernel_rfl) (fun _ _ _ h => h) rfl hS0 (by intro W hW; go_simp) ?_
      try simp only [Act.put, List.setIfInBounds_toArray, List.set_cons_zero, List.set_cons_succ]
      refine AnyL.takeAt 3 (.pointer (some ⟨P5, 3, none⟩)) rfl (by kernel_rfl) (by kernel_rfl) (by kernel_rfl) (by kernel_rfl) (fun _ _ _ h => h) rfl hS0 (by intro W hW; go_simp) ?_
      try simp only [Act.put, List.setIfInBounds_toArray, List.set_cons_zero, List.set_cons_succ]
      refine AnyL.takeAt 4 (.int .i64 S) rfl (by kernel_rfl) (by kernel_rfl) (by kernel_rfl) (by kernel_rfl) (fun _ _ _ h => h) rfl hS0 (by intro W hW; go_simp) ?_
      try simp only [Act.put, List.setIfInBounds_toArray, List.set_cons_zero, List.set_cons_succ]
      refine AnyL.oneAt 1 rfl (by kernel_rfl) rfl ?_
      intro K hK
      go_simp
      refine ((show ∀ W, Kb 0 wr W → _ from HSM) W0 HKD).mono ?_
      rintro e W1 ⟨rfl, hW1⟩
      rw [hW1]
      clear hW1
      refine hK.out _ _ (fun _ => hS0) ?_
      clear hK K
      try simp only [Act.put, List.setIfInBounds_toArray, List.set_cons_zero, List.set_cons_succ]
      refine AnyL.takeAt 2 (.int .i64 SM) rfl (by kernel_rfl) (by kernel_rfl) (by kernel_rfl) (by kernel_rfl) (fun _ _ _ h => h) rfl hS0 (by intro W hW; go_simp; first | done | (rw [show IntKind.i64.wrap (smz (img PP 2) LN) = SM from HSW]) | (simp [show IntKind.i64.wrap (smz (img PP 2) LN) = SM from HSW])) ?_
      try simp only [Act.put, List.setIfInBounds_toArray, List.set_cons_zero, List.set_cons_succ]
      refine AnyL.takeAt 5 (.bool (SM != S)) rfl (by kernel_rfl) (by kernel_rfl) (by kernel_rfl) (by kernel_rfl) (fun _ _ _ h => h) rfl hS0 (by intro W hW; go_simp) ?_
      try simp only [Act.put, List.setIfInBounds_toArray, List.set_cons_zero, List.set_cons_succ]
      refine AnyL.done (by kernel_rfl) ?_
      rw [hs2]
      go_upto_region 12 with fail
      refine AnyL.region (S := fun W' => W'.cell? ⟨P5, 1, none⟩ = some (.int .i64 G)) (z := 6) (by kernel_rfl) ?_
      have hT0 : (fun W' : World => W'.cell? ⟨P5, 1, none⟩ = some (.int .i64 G)) W0.drew := hT00
      have HKT : Hid (Kb 0 wr W0.drew) := ((show Kb 0 wr W0 from HKD).trans (Kb.drewN (Kb.refl _ _) 1) : Kb 0 wr W0.drew)
      obtain ⟨W3, hW3⟩ : ∃ W3, W3 = W0.drew := ⟨_, rfl⟩
      rw [← hW3] at HKT hT0 ⊢
      clear hW3 hS0 HKD HSM hT00
      refine AnyL.takeAt 0 (.pointer (some ⟨P5, 1, none⟩)) rfl (by kernel_rfl) (by kernel_rfl) (by kernel_rfl) (by kernel_rfl) (fun _ _ _ h => h) rfl hT0 (by intro W hW; go_simp) ?_
      try simp only [Act.put, List.setIfInBounds_toArray, List.set_cons_zero, List.set_cons_succ]
      refine AnyL.takeAt 1 (.int .i64 G) rfl (by kernel_rfl) (by kernel_rfl) (by kernel_rfl) (by kernel_rfl) (fun _ _ _ h => h) rfl hT0 (by intro W hW; go_simp) ?_
      try simp only [Act.put, List.setIfInBounds_toArray, List.set_cons_zero, List.set_cons_succ]
      refine AnyL.takeAt 2 (.int .i64 0) rfl (by kernel_rfl) (by kernel_rfl) (by kernel_rfl) (by kernel_rfl) (fun _ _ _ h => h) rfl hT0 (by intro W hW; go_simp) ?_
      try simp only [Act.put, List.setIfInBounds_toArray, List.set_cons_zero, List.set_cons_succ]
      refine AnyL.takeAt 3 (.slice pl LN cl) rfl (by kernel_rfl) (by kernel_rfl) (by kernel_rfl) (by kernel_rfl) (fun _ _ _ h => h) rfl hT0 (by intro W hW; go_simp) ?_
      try simp only [Act.put, List.setIfInBounds_toArray, List.set_cons_zero, List.set_cons_succ]
      refine AnyL.oneAt 4 rfl (by kernel_rfl) rfl ?_
      intro K hK
      go_simp
      refine ((show ∀ W, Kb 0 wr W → _ from HCP) W3 HKT).mono ?_
      rintro e W4 ⟨vz, gz, rfl, oz, hgz, kz⟩
      obtain ⟨pz, cz, rfl, -⟩ := oz.sl
      have hT4 : (fun W' : World => W'.cell? ⟨P5, 1, none⟩ = some (.int .i64 G)) W4 := kz.cell hT0
      have k24 := ((show Kb 0 w2 wr from HK2R).trans (show Kb 0 wr W3 from HKT)).trans kz
      have hgz2 := hgz (by omega)
      have zw3 := ((show Kb 0 w2 wr from HK2R).trans (show Kb 0 wr W3 from HKT)).size
      obtain ⟨kw2, b2, z2⟩ := (show _ ∧ _ ∧ _ from HB)
      have bq := (k24.block _ (Nat.zero_le _) (by omega)).trans b2
      obtain ⟨WF, hWF, bF, zF⟩ := four_set (.bool true) (.int .i64 G) (.int .i64 0) (.slice pz LN cz) bq
      have f0 : WF.cell? ⟨w.heap.size + 1, 0, none⟩ = some (.bool true) := cell_of bF rfl
      have f1 : WF.cell? ⟨w.heap.size + 1, 1, none⟩ = some (.int .i64 G) := cell_of bF rfl
      have f2 : WF.cell? ⟨w.heap.size + 1, 2, none⟩ = some (.int .i64 0) := cell_of bF rfl
      have f3 : WF.cell? ⟨w.heap.size + 1, 3, none⟩ = some (.slice pz LN cz) := cell_of bF rfl
      have a0 : W4.cell? ⟨w.heap.size + 1, 0, none⟩ = some (.bool false) := cell_of bq rfl
      have a1 : W4.cell? ⟨w.heap.size + 1, 1, none⟩ = some (.int .i64 0) := cell_of bq rfl
      have a2 : W4.cell? ⟨w.heap.size + 1, 2, none⟩ = some (.int .i64 0) := cell_of bq rfl
      have a3 : W4.cell? ⟨w.heap.size + 1, 3, none⟩ = some (.slice none 0 0) := cell_of bq rfl
      have fy : ∀ j, W4.frozen? ⟨w.heap.size + 1, j, none⟩ = false := fun j => frozen_of bq
      have HF : Hid (∃ g, OwnR WF (.slice pz LN cz) g LN (ub (img PP 2)) ∧ (0 < LN → w.heap.size ≤ g ∧ g < WF.heap.size) ∧ Kb 0 w WF) := (⟨gz, oz.block (fun _ => zF.block gz (by omega)), fun _ => ⟨by omega, by rw [zF.size]; exact hgz2.2⟩, zF.kb (kw2.trans k24) (by omega)⟩ : ∃ g, _)
      have HWF : Hid (WF = _) := hWF
      clear oz hgz kz hT0 k24 hgz2 zw3 kw2 b2 z2 bq hWF bF zF HCP HKT
      refine hK.out _ _ (fun _ => hT4) ?_
      clear hK K
      try simp only [Act.put, List.setIfInBounds_toArray, List.set_cons_zero, List.set_cons_succ]
      refine AnyL.takeAt 5 (.agg #[.bool true, .int .i64 G, .int .i64 0, .slice pz LN cz]) rfl (by kernel_rfl) (by kernel_rfl) (by kernel_rfl) (by kernel_rfl) (fun _ _ _ h => h) rfl hT4 (by intro W hW; go_simp) ?_
      try simp only [Act.put, List.setIfInBounds_toArray, List.set_cons_zero, List.set_cons_succ]
      refine AnyL.oneAt 6 rfl (by kernel_rfl) rfl ?_
      intro K hK
      go_simp
      rw [← (show WF = _ from HWF)]
      clear HWF
      refine hK.out _ _ (fun h => absurd rfl h) ?_
      clear hK K
      try simp only [Act.put, List.setIfInBounds_toArray, List.set_cons_zero, List.set_cons_succ]
      refine AnyL.done (by kernel_rfl) ?_
      go_wp2_with fail
      refine bodyPost_ret (by simp [results, Try.results98, go_sem, f0, f1, f2, f3]; rfl) rfl ?_
      obtain ⟨g9, q1, q2, q3⟩ := (show ∃ g, _ from HF)
      exact ⟨_, g9, rfl, q1, q2, q3⟩
    have hlt : (((i * 64 : Nat)) : Int) < (LN : Int) := by omega
    have hi128 : i < 128 := by omega
    have hiI : (i : Int) < 128 := by omega
    obtain ⟨PC, hPC⟩ : ∃ PC, PC = il PP 2 i := ⟨_, rfl⟩
    have HST : Hid (∀ W6 gz cz, Kb 0 wr W6 → OwnR W6 (.slice (some ⟨gz, 0, none⟩) 64 cz) gz 64 (ub (rdl (fun i => (D.B i).A) D.Q (2 + i) D.m)) → W6.ownsRow (P5 + 1) 5 1 (.slice pl (i * 64) cl) (i * 64) PC ∧ P5 + 1 ≤ W6.heap.size ∧ ∀ (W8 : World) (g cap : Nat), W8.ownsRow (P5 + 1) 5 1 (.slice (some ⟨g, 0, none⟩) (i * 64 + 64) cap) (i * 64 + 64) (PC ++ pgl (rdl (fun i => (D.B i).A) D.Q (2 + i) D.m)) → W6.grownBy W8 (Value.slice pl (i * 64) cl).ownBlock → W8.ownsRow (P5 + 1) 5 1 (.slice (some ⟨g, 0, none⟩) (i * 64 + 64) cap) ((i + 1) * 64) (il PP 2 (i + 1)) ∧ Kb 0 w3 W8 ∧ W8.cell? ⟨w.heap.size, 0, none⟩ = some (.slice p1 D.n c1) ∧ W8.cell? ⟨w.heap.size, 1, none⟩ = some (.slice p2 D.m c2)) := (fun W6 gz cz k6 oz => by
      obtain ⟨k23, hle5, z3⟩ := (show _ ∧ _ ∧ _ from HK3)
      have k36 := hkb.trans k6
      have z36 := k36.size
      refine ⟨by rw [hPC]; exact own_keep hro (fun q hq => k6.block q (Nat.zero_le _) (hro.lt q hq).2), by omega, fun W8 g cap h8 g8 => ?_⟩
      have k38 : Kb 0 w3 W8 := ⟨by rw [g8.os]; exact k36.os, by rw [g8.output]; exact k36.output, Nat.le_trans k36.size g8.size, fun q h1 h2 => (g8.block q (by omega) (fun e => by have := (hro.lt q e.symm).1; omega)).trans (k36.block q h1 h2)⟩
      refine ⟨?_, k38, (show ∀ W, Kb 0 w2 W → _ from HU) W8 (k23.trans k38)⟩
      rw [il, ← hPC, (show ∀ i, _ from HPP) (2 + i), Nat.add_mul, Nat.one_mul]
      exact h8 : ∀ W6 gz cz, _)
    have HK3R : Hid (Kb 0 w2 wr) := (show _ ∧ _ from HK3).1.trans hkb
    obtain ⟨u0, u1⟩ := (show ∀ W, Kb 0 w2 W → _ from HU) wr HK3R
    clear hro hkb hPC hil c1' c3'
    go_upto_region 8 with fail
    refine AnyL.region (S := fun W' => W'.cell? ⟨w.heap.size, 0, none⟩ = some (.slice p1 D.n c1) ∧ W'.cell? ⟨w.heap.size, 1, none⟩ = some (.slice p2 D.m c2)) (z := 100) (by kernel_rfl) ?_
    have hS0 : (fun W' : World => W'.cell? ⟨w.heap.size, 0, none⟩ = some (.slice p1 D.n c1) ∧ W'.cell? ⟨w.heap.size, 1, none⟩ = some (.slice p2 D.m c2)) wr.drew := ⟨u0, u1⟩
    have HKR : Hid (Kb 0 wr wr.drew) := (Kb.drewN (Kb.refl _ _) 1 : Kb 0 wr wr.drew)
    have HKD : Hid (Kb 0 w2 wr.drew) := (show Kb 0 w2 wr from HK3R).trans (Kb.drewN (Kb.refl _ _) 1)
    obtain ⟨W0, hW0⟩ : ∃ W0, W0 = wr.drew := ⟨_, rfl⟩
    rw [← hW0] at HKD HKR hS0 ⊢
    clear hW0 u0 u1 c2'
    refine AnyL.takeAt 0 (.slice pl (i * 64) cl) rfl (by kernel_rfl) (by kernel_rfl) (by kernel_rfl) (by kernel_rfl) (fun _ _ _ h => h) rfl hS0 (by intro W hW; first | go_simp | (obtain ⟨i0, i1⟩ := hW; go_simp)) ?_
    try simp only [Act.put, List.setIfInBounds_toArray, List.set_cons_zero, List.set_cons_succ]
    refine AnyL.takeAt 1 (.agg #[.slice p1 D.n c1, .slice p2 D.m c2]) rfl (by kernel_rfl) (by kernel_rfl) (by kernel_rfl) (by kernel_rfl) (fun _ _ _ h => h) rfl hS0 (by intro W hW; first | go_simp | (obtain ⟨i0, i1⟩ := hW; go_simp)) ?_
    try simp only [Act.put, List.setIfInBounds_toArray, List.set_cons_zero, List.set_cons_succ]
    refine AnyL.takeAt 2 (.int .i64 0) rfl (by kernel_rfl) (by kernel_rfl) (by kernel_rfl) (by kernel_rfl) (fun _ _ _ h => h) rfl hS0 (by intro W hW; first | go_simp | (obtain ⟨i0, i1⟩ := hW; go_simp)) ?_
    try simp only [Act.put, List.setIfInBounds_toArray, List.set_cons_zero, List.set_cons_succ]
    refine AnyL.takeAt 4 (.int .i64 (i : Int)) rfl (by kernel_rfl) (by kernel_rfl) (by kernel_rfl) (by kernel_rfl) (fun _ _ _ h => h) rfl hS0 (by intro W hW; first | go_simp | (obtain ⟨i0, i1⟩ := hW; go_simp)) ?_
    try simp only [Act.put, List.setIfInBounds_toArray, List.set_cons_zero, List.set_cons_succ]
    refine AnyL.oneAt 3 rfl (by kernel_rfl) rfl ?_
    intro K hK
    go_simp
    refine (sp_first0 W0).mono ?_
    rintro e W1 ⟨rfl, hW1⟩
    rw [hW1]
    clear hW1
    refine hK.out _ _ (fun _ => hS0) ?_
    clear hK K
    try simp only [Act.put, List.setIfInBounds_toArray, List.set_cons_zero, List.set_cons_succ]
    refine AnyL.takeAt 5 (.int .i64 ((2 + i : Nat) : Int)) rfl (by kernel_rfl) (by kernel_rfl) (by kernel_rfl) (by kernel_rfl) (fun _ _ _ h => h) rfl hS0 (by intro W hW; go_simp; rw [w64i]; unfold wrap64; omega) ?_
    try simp only [Act.put, List.setIfInBounds_toArray, List.set_cons_zero, List.set_cons_succ]
    refine AnyL.oneAt 6 rfl (by kernel_rfl) rfl ?_
    intro K hK
    go_simp
    refine ((show ∀ W, Kb 0 w2 W → ∀ i, i < 128 → _ from HRD) W0 HKD i hi128).mono ?_
    rintro e W6 ⟨vz, gz, rfl, oz, hgz, kz⟩
    obtain ⟨pz, cz, rfl, hpz⟩ := oz.sl
    obtain ⟨rfl, hcz⟩ := hpz (by omega)
    have hS6 : (fun W' : World => W'.cell? ⟨w.heap.size, 0, none⟩ = some (.slice p1 D.n c1) ∧ W'.cell? ⟨w.heap.size, 1, none⟩ = some (.slice p2 D.m c2)) W6 := ⟨kz.cell hS0.1, kz.cell hS0.2⟩
    obtain ⟨hown6, h6z, HNX⟩ := (show ∀ W6 gz cz, _ from HST) W6 gz cz ((show Kb 0 wr W0 from HKR).trans kz) oz
    have HNX : Hid (∀ (W8 : World) (g cap : Nat), _) := HNX
    have HOZ : Hid ((∀ j u, (pgl (rdl (fun i => (D.B i).A) D.Q (2 + i) D.m))[j]? = some u → W6.cell? ((⟨gz, 0, none⟩ : Addr).add j) = some u)) := (fun j u hu => by
      have hj : j < 64 := by have := (List.getElem?_eq_some_iff.1 hu).1; rw [pgl_len] at this; exact this
      rw [pgl_at _ j hj] at hu
      injection hu with hu
      rw [addr0, oz.cell j hj, ← hu]
      rfl : ∀ j u, _)
    have HG6 : Hid (Kb 0 w2 W6 ∧ gz < W6.heap.size ∧ wr.heap.size ≤ gz) := (⟨(show Kb 0 w2 W0 from HKD).trans kz, hgz.2, by have := (show Kb 0 wr W0 from HKR).size; omega⟩ : _ ∧ _)
    clear HRD HST oz hgz kz hpz HKD HKR hS0
    refine hK.out _ _ (fun _ => hS6) ?_
    clear hK K
    try simp only [Act.put, List.setIfInBounds_toArray, List.set_cons_zero, List.set_cons_succ]
    refine AnyL.oneAt 7 rfl (by kernel_rfl) rfl ?_
    intro K hK
    refine wp_append_lies _ (.tmp 22) (.tmp 28) 26 rfl (P5 + 1) 5 i1 (.int .u8 0) 1 1 Try.underlying26 HI1 hz0 hz1 hz2 rfl (by decide) (.slice pl (i * 64) cl) (i * 64) PC rfl hown6 ⟨gz, 0, none⟩ 64 cz (pgl (rdl (fun i => (D.B i).A) D.Q (2 + i) D.m)) rfl (by rw [pgl_len]) HOZ (pgl_one _) (by decide) (by unfold maxLen; omega) (by omega) h6z _ rfl ?_
    intro g' cap' w8 hown1 hgrow1 hat hlt
    have HN := (show ∀ (W8 : World) (g cap : Nat), _ from HNX) w8 g' cap' hown1 hgrow1
    have hS8 : (fun W' : World => W'.cell? ⟨w.heap.size, 0, none⟩ = some (.slice p1 D.n c1) ∧ W'.cell? ⟨w.heap.size, 1, none⟩ = some (.slice p2 D.m c2)) w8 := HN.2.2
    have HN2 : Hid (w8.ownsRow (P5 + 1) 5 1 (.slice (some ⟨g', 0, none⟩) (i * 64 + 64) cap') ((i + 1) * 64) (il PP 2 (i + 1)) ∧ Kb 0 w3 w8) := (⟨HN.1, HN.2.1⟩ : _ ∧ _)
    clear hown1 hgrow1 hat hlt HNX HOZ HG6 hS6 HN hown6 h6z
    refine hK.out _ _ (fun _ => hS8) ?_
    clear hK K
    try simp only [Act.put, List.setIfInBounds_toArray, List.set_cons_zero, List.set_cons_succ]
    refine AnyL.takeAt 8 (.slice (some ⟨g', 0, none⟩) (i * 64 + 64) cap') rfl (by kernel_rfl) (by kernel_rfl) (by kernel_rfl) (by kernel_rfl) (fun _ _ _ h => h) rfl hS8 (by intro W hW; first | go_simp | (obtain ⟨i0, i1⟩ := hW; go_simp)) ?_
    try simp only [Act.put, List.setIfInBounds_toArray, List.set_cons_zero, List.set_cons_succ]
    refine AnyL.done (by kernel_rfl) ?_
    go_wp2_with fail
    go_roundw
    case rel => exact ⟨i + 1, _, rfl, by go_num, by omega, by omega, by have e : (i + 1) * 64 = i * 64 + 64 := by omega
                                                                        rw [e] at HN2 ⊢
                                                                        exact HN2⟩
    case measure => simp [intOf]; omega
set_option maxHeartbeats 8000000 in
theorem sp_img_a1 {v1 v2 : Value} {D : Dd} (w : World) (ha : RowD 0 w v1 v2 D) (hh : ∀ x1 x2 W, RowD 0 W x1 x2 D → Calls Try.prog 59 #[.agg #[x1, x2], .int .i64 1] W fun e w' => e = .returned (.agg #[.bool false, .int .i64 0, .int .i64 0, .int .i64 0]) ∧ Kb 0 W w') :
    Calls Try.prog 98 #[.agg #[v1, v2], .int .i64 1] w (KP zK w) := by
  obtain ⟨⟨p1, c1, rfl, -⟩, ⟨p2, c2, rfl, -⟩⟩ := id ha
  obtain ⟨w1, hw1⟩ : ∃ w1, w1 = w.alloc (.cells #[.slice p1 D.n c1, .slice p2 D.m c2] 30) := ⟨_, rfl⟩
  obtain ⟨w2, hw2⟩ : ∃ w2, w2 = w1.alloc (.cells #[.bool false, .int .i64 0, .int .i64 0, .slice none 0 0] 51) := ⟨_, rfl⟩
  have k1 : Kb 0 w w1 := by rw [hw1]; exact kb_alloc _ _ _
  have b1 : w1.heap[w.heap.size]? = some (.cells #[.slice p1 D.n c1, .slice p2 D.m c2] 30 (0, 0)) := by rw [hw1]; exact alloc_new _ _ _
  have z1 : w1.heap.size = w.heap.size + 1 := by rw [hw1]; exact World.size_alloc _ _
  have k2 : Kb 0 w1 w2 := by rw [hw2]; exact kb_alloc _ _ _
  have b2 : w2.heap[w.heap.size + 1]? = some (.cells #[.bool false, .int .i64 0, .int .i64 0, .slice none 0 0] 51 (0, 0)) := by rw [hw2, ← z1]; exact alloc_new _ _ _
  have z2 : w2.heap.size = w.heap.size + 2 := by rw [hw2, World.size_alloc, z1]
  have b12 := (k2.block _ (Nat.zero_le _) (by omega)).trans b1
  have u0 : w2.cell? ⟨w.heap.size, 0, none⟩ = some (.slice p1 D.n c1) := cell_of b12 rfl
  have u1 : w2.cell? ⟨w.heap.size, 1, none⟩ = some (.slice p2 D.m c2) := cell_of b12 rfl
  have kw2 := k1.trans k2
  have HB : Hid (Kb 0 w w2 ∧ w2.heap[w.heap.size + 1]? = some (.cells #[.bool false, .int .i64 0, .int .i64 0, .slice none 0 0] 51 (0, 0)) ∧ w2.heap.size = w.heap.size + 2) := (⟨kw2, b2, z2⟩ : _ ∧ _)
  have HW2 : Hid (w2 = (w.alloc (.cells #[.slice p1 D.n c1, .slice p2 D.m c2] 30)).alloc (.cells #[.bool false, .int .i64 0, .int .i64 0, .slice none 0 0] 51)) := (by rw [hw2, hw1] : w2 = _)
  have HI := hh _ _ w2 (ha.keep kw2)
  clear hw1 hw2 k1 b1 z1 k2 b2 z2 b12 kw2 ha hh
  go_enter Try.func98, Try.ntmps98
  go_upto_region 1 with fail
  rw [← (show w2 = _ from HW2)]
  clear HW2
  go_wp2_with fail
  refine HI.mono ?_
  rintro e wA ⟨rfl, kA⟩
  obtain ⟨P5, hP5⟩ : ∃ P5, P5 = wA.heap.size := ⟨_, rfl⟩
  obtain ⟨w3, hw3⟩ : ∃ w3, w3 = wA.alloc (.cells #[.bool false, .int .i64 0, .int .i64 0, .int .i64 0] 46) := ⟨_, rfl⟩
  have k3 : Kb 0 w2 w3 := kA.trans (by rw [hw3]; exact kb_alloc _ _ _)
  have b5 : w3.heap[P5]? = some (.cells #[.bool false, .int .i64 0, .int .i64 0, .int .i64 0] 46 (0, 0)) := by rw [hw3, hP5]; exact alloc_new _ _ _
  have h0 : w3.cell? ⟨P5, 0, none⟩ = some (.bool false) := cell_of b5 rfl
  have HW3 : Hid (w3 = wA.alloc (.cells #[.bool false, .int .i64 0, .int .i64 0, .int .i64 0] 46) ∧ P5 = wA.heap.size) := (⟨hw3, hP5⟩ : _ ∧ _)
  have HK3 : Hid (Kb 0 w2 w3) := k3
  clear HI u0 u1 kA hP5 hw3 b5 k3
  go_upto_region 2 with fail
  rw [← (show _ ∧ _ from HW3).1, ← (show _ ∧ _ from HW3).2]
  clear HW3
  have k3 := (show Kb 0 w2 w3 from HK3)
  obtain ⟨kw2, b2, z2⟩ := (show _ ∧ _ ∧ _ from HB)
  have bq := (k3.block _ (Nat.zero_le _) (by omega)).trans b2
  obtain ⟨WF, hWF, bF, zF⟩ := four_set (.bool false) (.int .i64 0) (.int .i64 0) (.slice none 0 0) bq
  have f0 : WF.cell? ⟨w.heap.size + 1, 0, none⟩ = some (.bool false) := cell_of bF rfl
  have f1 : WF.cell? ⟨w.heap.size + 1, 1, none⟩ = some (.int .i64 0) := cell_of bF rfl
  have f2 : WF.cell? ⟨w.heap.size + 1, 2, none⟩ = some (.int .i64 0) := cell_of bF rfl
  have f3 : WF.cell? ⟨w.heap.size + 1, 3, none⟩ = some (.slice none 0 0) := cell_of bF rfl
  have a0 : w3.cell? ⟨w.heap.size + 1, 0, none⟩ = some (.bool false) := cell_of bq rfl
  have a1 : w3.cell? ⟨w.heap.size + 1, 1, none⟩ = some (.int .i64 0) := cell_of bq rfl
  have a2 : w3.cell? ⟨w.heap.size + 1, 2, none⟩ = some (.int .i64 0) := cell_of bq rfl
  have a3 : w3.cell? ⟨w.heap.size + 1, 3, none⟩ = some (.slice none 0 0) := cell_of bq rfl
  have fy : ∀ j, w3.frozen? ⟨w.heap.size + 1, j, none⟩ = false := fun j => frozen_of bq
  have HF : Hid (Kb 0 w WF) := zF.kb (kw2.trans k3) (by omega)
  have HWF : Hid (WF = _) := hWF
  clear hWF bF zF bq HB kw2 b2 z2 k3 HK3
  go_wp2_with fail
  rw [← (show WF = _ from HWF)]
  clear HWF
  refine bodyPost_ret (by simp [results, Try.results98, go_sem, f0, f1, f2, f3]; rfl) rfl ?_
  exact ⟨_, 0, rfl, rd_nil2 _, fun h => absurd h (Nat.lt_irrefl 0), HF⟩
set_option maxHeartbeats 32000000 in
theorem sp_img_b1 {v1 v2 : Value} {D : Dd} {G S : Int} {LN : Nat} (w : World) (ha : RowD 0 w v1 v2 D) (hok : Dok D) (hL0 : 0 < LN) (hLL : LN ≤ 8192) (hb : ∀ j, j < 8192 → 0 ≤ img (fun i => rdl (fun i => (D.B i).A) D.Q i D.m) 130 j ∧ img (fun i => rdl (fun i => (D.B i).A) D.Q i D.m) 130 j ≤ 255) (hsum : ¬ sgz (img (fun i => rdl (fun i => (D.B i).A) D.Q i D.m) 130) LN = S) (hh : ∀ x1 x2 W, RowD 0 W x1 x2 D → Calls Try.prog 59 #[.agg #[x1, x2], .int .i64 1] W fun e w' => e = .returned (.agg #[.bool true, .int .i64 G, .int .i64 (LN : Int), .int .i64 S]) ∧ Kb 0 W w') :
    Calls Try.prog 98 #[.agg #[v1, v2], .int .i64 1] w (KiP false 0 0 0 (fun _ => 0) w) := by
  obtain ⟨⟨p1, c1, rfl, -⟩, ⟨p2, c2, rfl, -⟩⟩ := id ha
  obtain ⟨w1, hw1⟩ : ∃ w1, w1 = w.alloc (.cells #[.slice p1 D.n c1, .slice p2 D.m c2] 30) := ⟨_, rfl⟩
  obtain ⟨w2, hw2⟩ : ∃ w2, w2 = w1.alloc (.cells #[.bool false, .int .i64 0, .int .i64 0, .slice none 0 0] 51) := ⟨_, rfl⟩
  have k1 : Kb 0 w w1 := by rw [hw1]; exact kb_alloc _ _ _
  have b1 : w1.heap[w.heap.size]? = some (.cells #[.slice p1 D.n c1, .slice p2 D.m c2] 30 (0, 0)) := by rw [hw1]; exact alloc_new _ _ _
  have z1 : w1.heap.size = w.heap.size + 1 := by rw [hw1]; exact World.size_alloc _ _
  have k2 : Kb 0 w1 w2 := by rw [hw2]; exact kb_alloc _ _ _
  have b2 : w2.heap[w.heap.size + 1]? = some (.cells #[.bool false, .int .i64 0, .int .i64 0, .slice none 0 0] 51 (0, 0)) := by rw [hw2, ← z1]; exact alloc_new _ _ _
  have z2 : w2.heap.size = w.heap.size + 2 := by rw [hw2, World.size_alloc, z1]
  have b12 := (k2.block _ (Nat.zero_le _) (by omega)).trans b1
  have u0 : w2.cell? ⟨w.heap.size, 0, none⟩ = some (.slice p1 D.n c1) := cell_of b12 rfl
  have u1 : w2.cell? ⟨w.heap.size, 1, none⟩ = some (.slice p2 D.m c2) := cell_of b12 rfl
  have kw2 := k1.trans k2
  have HB : Hid (Kb 0 w w2 ∧ w2.heap[w.heap.size + 1]? = some (.cells #[.bool false, .int .i64 0, .int .i64 0, .slice none 0 0] 51 (0, 0)) ∧ w2.heap.size = w.heap.size + 2) := (⟨kw2, b2, z2⟩ : _ ∧ _)
  have HW2 : Hid (w2 = (w.alloc (.cells #[.slice p1 D.n c1, .slice p2 D.m c2] 30)).alloc (.cells #[.bool false, .int .i64 0, .int .i64 0, .slice none 0 0] 51)) := (by rw [hw2, hw1] : w2 = _)
  have HI := hh _ _ w2 (ha.keep kw2)
  obtain ⟨PP, hPP⟩ : ∃ PP : Nat → Nat → Int, PP = fun i => rdl (fun i => (D.B i).A) D.Q i D.m := ⟨_, rfl⟩
  rw [← hPP] at hb hsum
  have HRD : Hid (∀ W, Kb 0 w2 W → ∀ i, i < 128 → Calls Try.prog 90 #[.agg #[.slice p1 D.n c1, .slice p2 D.m c2], .int .i64 ((130 + i : Nat) : Int)] W fun e w' => ∃ v g, e = .returned v ∧ OwnR w' v g 64 (ub (rdl (fun i => (D.B i).A) D.Q (130 + i) D.m)) ∧ (W.heap.size ≤ g ∧ g < w'.heap.size) ∧ Kb 0 W w') := (fun W k i hi => by
    have hra := ha.keep (kw2.trans k)
    obtain ⟨n, Bf, m, Qf⟩ := D
    obtain rfl : n = 258 := hok.1
    exact sp_l53read (130 + i) W hra hok (by omega) : ∀ W, _)
  have HPP : Hid (∀ i, pgl (PP i) = pgl (rdl (fun i => (D.B i).A) D.Q i D.m)) := (fun i => by rw [hPP] : ∀ i, _)
  have HHB : Hid (∀ j, j < 8192 → 0 ≤ img PP 130 j ∧ img PP 130 j ≤ 255) := hb
  obtain ⟨SM, hSM⟩ : ∃ SM, SM = sgz (img PP 130) LN := ⟨_, rfl⟩
  have HSW : Hid (IntKind.i64.wrap (smz (img PP 130) LN) = SM) := (by rw [hSM, w64i]; rfl : IntKind.i64.wrap (smz (img PP 130) LN) = SM)
  rw [← hSM] at hsum
  have hs2 : (SM != S) = true := by simp [hsum]
  have hLI : (LN : Int) ≤ 8192 := by omega
  have hL0I : (0 : Int) < (LN : Int) := by omega
  obtain ⟨i1, hi1, hz0, hz1, hz2⟩ := infoU8
  have HI1 : Hid (Try.prog.info? 5 = some i1) := hi1
  clear hw1 hw2 k1 b1 z1 k2 b2 z2 b12 kw2 ha hh hok hb hSM hsum hPP hi1
  go_enter Try.func98, Try.ntmps98
  go_upto_region 1 with fail
  rw [← (show w2 = _ from HW2)]
  clear HW2
  go_wp2_with fail
  refine HI.mono ?_
  rintro e wA ⟨rfl, kA⟩
  obtain ⟨P5, hP5⟩ : ∃ P5, P5 = wA.heap.size := ⟨_, rfl⟩
  obtain ⟨w3, hw3⟩ : ∃ w3, w3 = wA.alloc (.cells #[.bool true, .int .i64 G, .int .i64 (LN : Int), .int .i64 S] 46) := ⟨_, rfl⟩
  have k3 : Kb 0 w2 w3 := kA.trans (by rw [hw3]; exact kb_alloc _ _ _)
  have b5 : w3.heap[P5]? = some (.cells #[.bool true, .int .i64 G, .int .i64 (LN : Int), .int .i64 S] 46 (0, 0)) := by rw [hw3, hP5]; exact alloc_new _ _ _
  have h0 : w3.cell? ⟨P5, 0, none⟩ = some (.bool true) := cell_of b5 rfl
  have z3 : w3.heap.size = P5 + 1 := by rw [hw3, World.size_alloc, hP5]
  have HC5 : Hid (∀ W, Kb 0 w3 W → W.cell? ⟨P5, 1, none⟩ = some (.int .i64 G) ∧ W.cell? ⟨P5, 2, none⟩ = some (.int .i64 (LN : Int)) ∧ W.cell? ⟨P5, 3, none⟩ = some (.int .i64 S)) := (fun W k => ⟨k.cell (cell_of b5 rfl), k.cell (cell_of b5 rfl), k.cell (cell_of b5 rfl)⟩ : ∀ W, _)
  have HW3 : Hid (w3 = wA.alloc (.cells #[.bool true, .int .i64 G, .int .i64 (LN : Int), .int .i64 S] 46) ∧ P5 = wA.heap.size) := (⟨hw3, hP5⟩ : _ ∧ _)
  have HU : Hid (∀ W, Kb 0 w2 W → W.cell? ⟨w.heap.size, 0, none⟩ = some (.slice p1 D.n c1) ∧ W.cell? ⟨w.heap.size, 1, none⟩ = some (.slice p2 D.m c2)) := (fun W k => ⟨k.cell u0, k.cell u1⟩ : ∀ W, _)
  have HK3 : Hid (Kb 0 w2 w3 ∧ w2.heap.size ≤ P5 ∧ w3.heap.size = P5 + 1) := (⟨k3, by rw [hP5]; exact kA.size, z3⟩ : _ ∧ _)
  have HI0 : Hid (w3.ownsRow (P5 + 1) 5 1 (.slice none 0 0) (0 * 64) (il PP 130 0) ∧ Kb 0 w3 w3) := (⟨World.ownsRow_nil _ _ _ _, Kb.refl _ _⟩ : _ ∧ _)
  clear HI u0 u1 kA hP5 hw3 b5 k3 z3
  go_upto_region 2 with fail
  rw [← (show _ ∧ _ from HW3).1, ← (show _ ∧ _ from HW3).2]
  clear HW3
  go_wp2_with fail
  clear h0
  go_loopw [6, 7] (fun s6 s7 wr => ∃ (i : Nat) (v : Value), s6 = v ∧ s7 = .int .i64 (i : Int) ∧ i ≤ 128 ∧ i * 64 < LN + 64 ∧ Hid (wr.ownsRow (P5 + 1) 5 1 v (i * 64) (il PP 130 i) ∧ Kb 0 w3 wr)) (fun _ s7 _ => 128 - (intOf s7).toNat)
  case atStart => exact ⟨0, _, rfl, rfl, Nat.zero_le _, by omega, HI0⟩
  case round =>
    clear HI0
    obtain ⟨i, v, rfl, rfl, hil, hiL, HX⟩ := hrel
    obtain ⟨hro, hkb⟩ := (show _ ∧ _ from HX)
    obtain ⟨pl, cl, rfl⟩ := own_shape hro
    clear HX
    obtain ⟨c1', c2', c3'⟩ := (show ∀ W, Kb 0 w3 W → _ from HC5) wr hkb
    have hcast : (((i * 64 : Nat)) : Int) = (i : Int) * 64 := by omega
    by_cases hi : i * 64 < LN
    case neg =>
      have hge : ¬ (((i * 64 : Nat)) : Int) < (LN : Int) := by omega
      have hi0 : 0 < i * 64 := by omega
      obtain ⟨g, cap, eg, hgd, hgc, hcell⟩ := own_cells hro hi0
      injection eg with eg1 _ eg3
      subst eg1
      subst eg3
      have hglt := hro.lt g (by rfl)
      have hfz := fun j => hro.frozenAt (g := g) j
      have hNC : LN ≤ cl := by omega
      have hrow : ∀ W, Kb 0 wr W → RowV W (.slice (some ⟨g, 0, none⟩) LN cl) LN (fun j => .int .u8 (img PP 130 j)) := fun W k => ⟨_, _, rfl, fun _ => ⟨_, rfl, hNC, fun j hj => by
        rw [addr0]
        refine k.cell ?_
        rw [hcell j (by omega), il_at PP 130 i j (by omega)]⟩⟩
      obtain ⟨pl, hpl⟩ : ∃ pl, pl = some (⟨g, 0, none⟩ : Addr) := ⟨_, rfl⟩
      have HSM : Hid (∀ W, Kb 0 wr W → Calls Try.prog 101 #[.slice pl LN cl] W fun e w' => e = .returned (.int .u64 (smz (img PP 130) LN)) ∧ w' = W) := (fun W k => by rw [hpl]; exact sp_sum W (hrow W k) (by omega) (fun j hj => (show ∀ j, j < 8192 → _ from HHB) j (by omega)) : ∀ W, _)
      have HCP : Hid (∀ W, Kb 0 wr W → Calls Try.prog 45 #[.slice pl LN cl] W fun e w' => ∃ v g, e = .returned v ∧ OwnR w' v g LN (ub (img PP 130)) ∧ (0 < LN → W.heap.size ≤ g ∧ g < w'.heap.size) ∧ Kb 0 W w') := (fun W k => by rw [hpl]; exact sp_copy W (hrow W k) (by omega) : ∀ W, _)
      have HK2R : Hid (Kb 0 w2 wr) := (show _ ∧ _ from HK3).1.trans hkb
      have HPL : Hid (pl = some (⟨g, 0, none⟩ : Addr)) := hpl
      have HNC : Hid (LN ≤ cl ∧ i ≤ 128) := (⟨hNC, hil⟩ : _ ∧ _)
      have hNCI : (LN : Int) ≤ (cl : Int) := by omega
      clear hro hkb hgd hgc hcell hglt hrow hil hiL hi hi0 hfz HRD HPP HHB HU HI1 hz0 hz1 hz2 hpl HK3 HC5
      go_upto_region 10 with (first | fail)
      rw [← (show pl = _ from HPL)]
      refine AnyL.region (S := fun W' => W'.cell? ⟨P5, 3, none⟩ = some (.int .i64 S)) (z := 100) (by kernel_rfl) ?_
      have hS0 : (fun W' : World => W'.cell? ⟨P5, 3, none⟩ = some (.int .i64 S)) wr.drew := c3'
      have HKD : Hid (Kb 0 wr wr.drew) := (Kb.drewN (Kb.refl _ _) 1 : Kb 0 wr wr.drew)
      have hT00 : wr.drew.cell? ⟨P5, 1, none⟩ = some (.int .i64 G) := c1'
      obtain ⟨W0, hW0⟩ : ∃ W0, W0 = wr.drew := ⟨_, rfl⟩
      rw [← hW0] at HKD hS0 hT00 ⊢
      clear hW0 c1' c2' c3'
      refine AnyL.takeAt 0 (.slice pl LN cl) rfl (by kernel_rfl) (by kernel_rfl) (by kernel_rfl) (by kernel_rfl) (fun _ _ _ h => h) rfl hS0 (by intro W hW; go_simp) ?_
      try simp only [Act.put, List.setIfInBounds_toArray, List.set_cons_zero, List.set_cons_succ]
      refine AnyL.takeAt 3 (.pointer (some ⟨P5, 3, none⟩)) rfl (by kernel_rfl) (by kernel_rfl) (by kernel_rfl) (by kernel_rfl) (fun _ _ _ h => h) rfl hS0 (by intro W hW; go_simp) ?_
      try simp only [Act.put, List.setIfInBounds_toArray, List.set_cons_zero, List.set_cons_succ]
      refine AnyL.takeAt 4 (.int .i64 S) rfl (by kernel_rfl) (by kernel_rfl) (by kernel_rfl) (by kernel_rfl) (fun _ _ _ h => h) rfl hS0 (by intro W hW; go_simp) ?_
      try simp only [Act.put, List.setIfInBounds_toArray, List.set_cons_zero, List.set_cons_succ]
      refine AnyL.oneAt 1 rfl (by kernel_rfl) rfl ?_
      intro K hK
      go_simp
      refine ((show ∀ W, Kb 0 wr W → _ from HSM) W0 HKD).mono ?_
      rintro e W1 ⟨rfl, hW1⟩
      rw [hW1]
      clear hW1
      refine hK.out _ _ (fun _ => hS0) ?_
      clear hK K
      try simp only [Act.put, List.setIfInBounds_toArray, List.set_cons_zero, List.set_cons_succ]
      refine AnyL.takeAt 2 (.int .i64 SM) rfl (by kernel_rfl) (by kernel_rfl) (by kernel_rfl) (by kernel_rfl) (fun _ _ _ h => h) rfl hS0 (by intro W hW; go_simp; first | done | (rw [show IntKind.i64.wrap (smz (img PP 130) LN) = SM from HSW]) | (simp [show IntKind.i64.wrap (smz (img PP 130) LN) = SM from HSW])) ?_
      try simp only [Act.put, List.setIfInBounds_toArray, List.set_cons_zero, List.set_cons_succ]
      refine AnyL.takeAt 5 (.bool (SM != S)) rfl (by kernel_rfl) (by kernel_rfl) (by kernel_rfl) (by kernel_rfl) (fun _ _ _ h => h) rfl hS0 (by intro W hW; go_simp) ?_
      try simp only [Act.put, List.setIfInBounds_toArray, List.set_cons_zero, List.set_cons_succ]
      refine AnyL.done (by kernel_rfl) ?_
      rw [hs2]
      have k0 := (show Kb 0 w2 wr from HK2R).trans (show Kb 0 wr W0 from HKD)
      obtain ⟨kw2, b2, z2⟩ := (show _ ∧ _ ∧ _ from HB)
      have bq := (k0.block _ (Nat.zero_le _) (by omega)).trans b2
      obtain ⟨WF, hWF, bF, zF⟩ := four_set (.bool false) (.int .i64 0) (.int .i64 0) (.slice none 0 0) bq
      have f0 : WF.cell? ⟨w.heap.size + 1, 0, none⟩ = some (.bool false) := cell_of bF rfl
      have f1 : WF.cell? ⟨w.heap.size + 1, 1, none⟩ = some (.int .i64 0) := cell_of bF rfl
      have f2 : WF.cell? ⟨w.heap.size + 1, 2, none⟩ = some (.int .i64 0) := cell_of bF rfl
      have f3 : WF.cell? ⟨w.heap.size + 1, 3, none⟩ = some (.slice none 0 0) := cell_of bF rfl
      have a0 : W0.cell? ⟨w.heap.size + 1, 0, none⟩ = some (.bool false) := cell_of bq rfl
      have a1 : W0.cell? ⟨w.heap.size + 1, 1, none⟩ = some (.int .i64 0) := cell_of bq rfl
      have a2 : W0.cell? ⟨w.heap.size + 1, 2, none⟩ = some (.int .i64 0) := cell_of bq rfl
      have a3 : W0.cell? ⟨w.heap.size + 1, 3, none⟩ = some (.slice none 0 0) := cell_of bq rfl
      have fy : ∀ j, W0.frozen? ⟨w.heap.size + 1, j, none⟩ = false := fun j => frozen_of bq
      have HF : Hid (Kb 0 w WF) := zF.kb (kw2.trans k0) (by omega)
      have HWF : Hid (WF = _) := hWF
      clear hWF bF zF bq HB kw2 b2 z2 k0 hS0 HKD HK2R HSM HCP hT00
      go_wp2_with fail
      rw [← (show WF = _ from HWF)]
      clear HWF
      refine bodyPost_ret (by simp [results, Try.results98, go_sem, f0, f1, f2, f3]; rfl) rfl ?_
      exact ⟨_, 0, rfl, rd_nil2 _, fun h => absurd h (Nat.lt_irrefl 0), HF⟩
    have hlt : (((i * 64 : Nat)) : Int) < (LN : Int) := by omega
    have hi128 : i < 128 := by omega
    have hiI : (i : Int) < 128 := by omega
    obtain ⟨PC, hPC⟩ : ∃ PC, PC = il PP 130 i := ⟨_, rfl⟩
    have HST : Hid (∀ W6 gz cz, Kb 0 wr W6 → OwnR W6 (.slice (some ⟨gz, 0, none⟩) 64 cz) gz 64 (ub (rdl (fun i => (D.B i).A) D.Q (130 + i) D.m)) → W6.ownsRow (P5 + 1) 5 1 (.slice pl (i * 64) cl) (i * 64) PC ∧ P5 + 1 ≤ W6.heap.size ∧ ∀ (W8 : World) (g cap : Nat), W8.ownsRow (P5 + 1) 5 1 (.slice (some ⟨g, 0, none⟩) (i * 64 + 64) cap) (i * 64 + 64) (PC ++ pgl (rdl (fun i => (D.B i).A) D.Q (130 + i) D.m)) → W6.grownBy W8 (Value.slice pl (i * 64) cl).ownBlock → W8.ownsRow (P5 + 1) 5 1 (.slice (some ⟨g, 0, none⟩) (i * 64 + 64) cap) ((i + 1) * 64) (il PP 130 (i + 1)) ∧ Kb 0 w3 W8 ∧ W8.cell? ⟨w.heap.size, 0, none⟩ = some (.slice p1 D.n c1) ∧ W8.cell? ⟨w.heap.size, 1, none⟩ = some (.slice p2 D.m c2)) := (fun W6 gz cz k6 oz => by
      obtain ⟨k23, hle5, z3⟩ := (show _ ∧ _ ∧ _ from HK3)
      have k36 := hkb.trans k6
      have z36 := k36.size
      refine ⟨by rw [hPC]; exact own_keep hro (fun q hq => k6.block q (Nat.zero_le _) (hro.lt q hq).2), by omega, fun W8 g cap h8 g8 => ?_⟩
      have k38 : Kb 0 w3 W8 := ⟨by rw [g8.os]; exact k36.os, by rw [g8.output]; exact k36.output, Nat.le_trans k36.size g8.size, fun q h1 h2 => (g8.block q (by omega) (fun e => by have := (hro.lt q e.symm).1; omega)).trans (k36.block q h1 h2)⟩
      refine ⟨?_, k38, (show ∀ W, Kb 0 w2 W → _ from HU) W8 (k23.trans k38)⟩
      rw [il, ← hPC, (show ∀ i, _ from HPP) (130 + i), Nat.add_mul, Nat.one_mul]
      exact h8 : ∀ W6 gz cz, _)
    have HK3R : Hid (Kb 0 w2 wr) := (show _ ∧ _ from HK3).1.trans hkb
    obtain ⟨u0, u1⟩ := (show ∀ W, Kb 0 w2 W → _ from HU) wr HK3R
    clear hro hkb hPC hil c1' c3'
    go_upto_region 8 with fail
    refine AnyL.region (S := fun W' => W'.cell? ⟨w.heap.size, 0, none⟩ = some (.slice p1 D.n c1) ∧ W'.cell? ⟨w.heap.size, 1, none⟩ = some (.slice p2 D.m c2)) (z := 100) (by kernel_rfl) ?_
    have hS0 : (fun W' : World => W'.cell? ⟨w.heap.size, 0, none⟩ = some (.slice p1 D.n c1) ∧ W'.cell? ⟨w.heap.size, 1, none⟩ = some (.slice p2 D.m c2)) wr.drew := ⟨u0, u1⟩
    have HKR : Hid (Kb 0 wr wr.drew) := (Kb.drewN (Kb.refl _ _) 1 : Kb 0 wr wr.drew)
    have HKD : Hid (Kb 0 w2 wr.drew) := (show Kb 0 w2 wr from HK3R).trans (Kb.drewN (Kb.refl _ _) 1)
    obtain ⟨W0, hW0⟩ : ∃ W0, W0 = wr.drew := ⟨_, rfl⟩
    rw [← hW0] at HKD HKR hS0 ⊢
    clear hW0 u0 u1 c2'
    refine AnyL.takeAt 0 (.slice pl (i * 64) cl) rfl (by kernel_rfl) (by kernel_rfl) (by kernel_rfl) (by kernel_rfl) (fun _ _ _ h => h) rfl hS0 (by intro W hW; first | go_simp | (obtain ⟨i0, i1⟩ := hW; go_simp)) ?_
    try simp only [Act.put, List.setIfInBounds_toArray, List.set_cons_zero, List.set_cons_succ]
    refine AnyL.takeAt 1 (.agg #[.slice p1 D.n c1, .slice p2 D.m c2]) rfl (by kernel_rfl) (by kernel_rfl) (by kernel_rfl) (by kernel_rfl) (fun _ _ _ h => h) rfl hS0 (by intro W hW; first | go_simp | (obtain ⟨i0, i1⟩ := hW; go_simp)) ?_
    try simp only [Act.put, List.setIfInBounds_toArray, List.set_cons_zero, List.set_cons_succ]
    refine AnyL.takeAt 2 (.int .i64 1) rfl (by kernel_rfl) (by kernel_rfl) (by kernel_rfl) (by kernel_rfl) (fun _ _ _ h => h) rfl hS0 (by intro W hW; first | go_simp | (obtain ⟨i0, i1⟩ := hW; go_simp)) ?_
    try simp only [Act.put, List.setIfInBounds_toArray, List.set_cons_zero, List.set_cons_succ]
    refine AnyL.takeAt 4 (.int .i64 (i : Int)) rfl (by kernel_rfl) (by kernel_rfl) (by kernel_rfl) (by kernel_rfl) (fun _ _ _ h => h) rfl hS0 (by intro W hW; first | go_simp | (obtain ⟨i0, i1⟩ := hW; go_simp)) ?_
    try simp only [Act.put, List.setIfInBounds_toArray, List.set_cons_zero, List.set_cons_succ]
    refine AnyL.oneAt 3 rfl (by kernel_rfl) rfl ?_
    intro K hK
    go_simp
    refine (sp_first1 W0).mono ?_
    rintro e W1 ⟨rfl, hW1⟩
    rw [hW1]
    clear hW1
    refine hK.out _ _ (fun _ => hS0) ?_
    clear hK K
    try simp only [Act.put, List.setIfInBounds_toArray, List.set_cons_zero, List.set_cons_succ]
    refine AnyL.takeAt 5 (.int .i64 ((130 + i : Nat) : Int)) rfl (by kernel_rfl) (by kernel_rfl) (by kernel_rfl) (by kernel_rfl) (fun _ _ _ h => h) rfl hS0 (by intro W hW; go_simp; rw [w64i]; unfold wrap64; omega) ?_
    try simp only [Act.put, List.setIfInBounds_toArray, List.set_cons_zero, List.set_cons_succ]
    refine AnyL.oneAt 6 rfl (by kernel_rfl) rfl ?_
    intro K hK
    go_simp
    refine ((show ∀ W, Kb 0 w2 W → ∀ i, i < 128 → _ from HRD) W0 HKD i hi128).mono ?_
    rintro e W6 ⟨vz, gz, rfl, oz, hgz, kz⟩
    obtain ⟨pz, cz, rfl, hpz⟩ := oz.sl
    obtain ⟨rfl, hcz⟩ := hpz (by omega)
    have hS6 : (fun W' : World => W'.cell? ⟨w.heap.size, 0, none⟩ = some (.slice p1 D.n c1) ∧ W'.cell? ⟨w.heap.size, 1, none⟩ = some (.slice p2 D.m c2)) W6 := ⟨kz.cell hS0.1, kz.cell hS0.2⟩
    obtain ⟨hown6, h6z, HNX⟩ := (show ∀ W6 gz cz, _ from HST) W6 gz cz ((show Kb 0 wr W0 from HKR).trans kz) oz
    have HNX : Hid (∀ (W8 : World) (g cap : Nat), _) := HNX
    have HOZ : Hid ((∀ j u, (pgl (rdl (fun i => (D.B i).A) D.Q (130 + i) D.m))[j]? = some u → W6.cell? ((⟨gz, 0, none⟩ : Addr).add j) = some u)) := (fun j u hu => by
      have hj : j < 64 := by have := (List.getElem?_eq_some_iff.1 hu).1; rw [pgl_len] at this; exact this
      rw [pgl_at _ j hj] at hu
      injection hu with hu
      rw [addr0, oz.cell j hj, ← hu]
      rfl : ∀ j u, _)
    have HG6 : Hid (Kb 0 w2 W6 ∧ gz < W6.heap.size ∧ wr.heap.size ≤ gz) := (⟨(show Kb 0 w2 W0 from HKD).trans kz, hgz.2, by have := (show Kb 0 wr W0 from HKR).size; omega⟩ : _ ∧ _)
    clear HRD HST oz hgz kz hpz HKD HKR hS0
    refine hK.out _ _ (fun _ => hS6) ?_
    clear hK K
    try simp only [Act.put, List.setIfInBounds_toArray, List.set_cons_zero, List.set_cons_succ]
    refine AnyL.oneAt 7 rfl (by kernel_rfl) rfl ?_
    intro K hK
    refine wp_append_lies _ (.tmp 22) (.tmp 28) 26 rfl (P5 + 1) 5 i1 (.int .u8 0) 1 1 Try.underlying26 HI1 hz0 hz1 hz2 rfl (by decide) (.slice pl (i * 64) cl) (i * 64) PC rfl hown6 ⟨gz, 0, none⟩ 64 cz (pgl (rdl (fun i => (D.B i).A) D.Q (130 + i) D.m)) rfl (by rw [pgl_len]) HOZ (pgl_one _) (by decide) (by unfold maxLen; omega) (by omega) h6z _ rfl ?_
    intro g' cap' w8 hown1 hgrow1 hat hlt
    have HN := (show ∀ (W8 : World) (g cap : Nat), _ from HNX) w8 g' cap' hown1 hgrow1
    have hS8 : (fun W' : World => W'.cell? ⟨w.heap.size, 0, none⟩ = some (.slice p1 D.n c1) ∧ W'.cell? ⟨w.heap.size, 1, none⟩ = some (.slice p2 D.m c2)) w8 := HN.2.2
    have HN2 : Hid (w8.ownsRow (P5 + 1) 5 1 (.slice (some ⟨g', 0, none⟩) (i * 64 + 64) cap') ((i + 1) * 64) (il PP 130 (i + 1)) ∧ Kb 0 w3 w8) := (⟨HN.1, HN.2.1⟩ : _ ∧ _)
    clear hown1 hgrow1 hat hlt HNX HOZ HG6 hS6 HN hown6 h6z
    refine hK.out _ _ (fun _ => hS8) ?_
    clear hK K
    try simp only [Act.put, List.setIfInBounds_toArray, List.set_cons_zero, List.set_cons_succ]
    refine AnyL.takeAt 8 (.slice (some ⟨g', 0, none⟩) (i * 64 + 64) cap') rfl (by kernel_rfl) (by kernel_rfl) (by kernel_rfl) (by kernel_rfl) (fun _ _ _ h => h) rfl hS8 (by intro W hW; first | go_simp | (obtain ⟨i0, i1⟩ := hW; go_simp)) ?_
    try simp only [Act.put, List.setIfInBounds_toArray, List.set_cons_zero, List.set_cons_succ]
    refine AnyL.done (by kernel_rfl) ?_
    go_wp2_with fail
    go_roundw
    case rel => exact ⟨i + 1, _, rfl, by go_num, by omega, by omega, by have e : (i + 1) * 64 = i * 64 + 64 := by omega
                                                                        rw [e] at HN2 ⊢
                                                                        exact HN2⟩
    case measure => simp [intOf]; omega
set_option maxHeartbeats 32000000 in
theorem sp_img_c1 {v1 v2 : Value} {D : Dd} {G S : Int} {LN : Nat} (w : World) (ha : RowD 0 w v1 v2 D) (hok : Dok D) (hL0 : 0 < LN) (hLL : LN ≤ 8192) (hb : ∀ j, j < 8192 → 0 ≤ img (fun i => rdl (fun i => (D.B i).A) D.Q i D.m) 130 j ∧ img (fun i => rdl (fun i => (D.B i).A) D.Q i D.m) 130 j ≤ 255) (hsum : sgz (img (fun i => rdl (fun i => (D.B i).A) D.Q i D.m) 130) LN = S) (hh : ∀ x1 x2 W, RowD 0 W x1 x2 D → Calls Try.prog 59 #[.agg #[x1, x2], .int .i64 1] W fun e w' => e = .returned (.agg #[.bool true, .int .i64 G, .int .i64 (LN : Int), .int .i64 S]) ∧ Kb 0 W w') :
    Calls Try.prog 98 #[.agg #[v1, v2], .int .i64 1] w (KiP true G 1 LN (img (fun i => rdl (fun i => (D.B i).A) D.Q i D.m) 130) w) := by
  obtain ⟨⟨p1, c1, rfl, -⟩, ⟨p2, c2, rfl, -⟩⟩ := id ha
  obtain ⟨w1, hw1⟩ : ∃ w1, w1 = w.alloc (.cells #[.slice p1 D.n c1, .slice p2 D.m c2] 30) := ⟨_, rfl⟩
  obtain ⟨w2, hw2⟩ : ∃ w2, w2 = w1.alloc (.cells #[.bool false, .int .i64 0, .int .i64 0, .slice none 0 0] 51) := ⟨_, rfl⟩
  have k1 : Kb 0 w w1 := by rw [hw1]; exact kb_alloc _ _ _
  have b1 : w1.heap[w.heap.size]? = some (.cells #[.slice p1 D.n c1, .slice p2 D.m c2] 30 (0, 0)) := by rw [hw1]; exact alloc_new _ _ _
  have z1 : w1.heap.size = w.heap.size + 1 := by rw [hw1]; exact World.size_alloc _ _
  have k2 : Kb 0 w1 w2 := by rw [hw2]; exact kb_alloc _ _ _
  have b2 : w2.heap[w.heap.size + 1]? = some (.cells #[.bool false, .int .i64 0, .int .i64 0, .slice none 0 0] 51 (0, 0)) := by rw [hw2, ← z1]; exact alloc_new _ _ _
  have z2 : w2.heap.size = w.heap.size + 2 := by rw [hw2, World.size_alloc, z1]
  have b12 := (k2.block _ (Nat.zero_le _) (by omega)).trans b1
  have u0 : w2.cell? ⟨w.heap.size, 0, none⟩ = some (.slice p1 D.n c1) := cell_of b12 rfl
  have u1 : w2.cell? ⟨w.heap.size, 1, none⟩ = some (.slice p2 D.m c2) := cell_of b12 rfl
  have kw2 := k1.trans k2
  have HB : Hid (Kb 0 w w2 ∧ w2.heap[w.heap.size + 1]? = some (.cells #[.bool false, .int .i64 0, .int .i64 0, .slice none 0 0] 51 (0, 0)) ∧ w2.heap.size = w.heap.size + 2) := (⟨kw2, b2, z2⟩ : _ ∧ _)
  have HW2 : Hid (w2 = (w.alloc (.cells #[.slice p1 D.n c1, .slice p2 D.m c2] 30)).alloc (.cells #[.bool false, .int .i64 0, .int .i64 0, .slice none 0 0] 51)) := (by rw [hw2, hw1] : w2 = _)
  have HI := hh _ _ w2 (ha.keep kw2)
  obtain ⟨PP, hPP⟩ : ∃ PP : Nat → Nat → Int, PP = fun i => rdl (fun i => (D.B i).A) D.Q i D.m := ⟨_, rfl⟩
  rw [← hPP] at hb hsum ⊢
  have HRD : Hid (∀ W, Kb 0 w2 W → ∀ i, i < 128 → Calls Try.prog 90 #[.agg #[.slice p1 D.n c1, .slice p2 D.m c2], .int .i64 ((130 + i : Nat) : Int)] W fun e w' => ∃ v g, e = .returned v ∧ OwnR w' v g 64 (ub (rdl (fun i => (D.B i).A) D.Q (130 + i) D.m)) ∧ (W.heap.size ≤ g ∧ g < w'.heap.size) ∧ Kb 0 W w') := (fun W k i hi => by
    have hra := ha.keep (kw2.trans k)
    obtain ⟨n, Bf, m, Qf⟩ := D
    obtain rfl : n = 258 := hok.1
    exact sp_l53read (130 + i) W hra hok (by omega) : ∀ W, _)
  have HPP : Hid (∀ i, pgl (PP i) = pgl (rdl (fun i => (D.B i).A) D.Q i D.m)) := (fun i => by rw [hPP] : ∀ i, _)
  have HHB : Hid (∀ j, j < 8192 → 0 ≤ img PP 130 j ∧ img PP 130 j ≤ 255) := hb
  obtain ⟨SM, hSM⟩ : ∃ SM, SM = sgz (img PP 130) LN := ⟨_, rfl⟩
  have HSW : Hid (IntKind.i64.wrap (smz (img PP 130) LN) = SM) := (by rw [hSM, w64i]; rfl : IntKind.i64.wrap (smz (img PP 130) LN) = SM)
  rw [← hSM] at hsum
  have hs2 : (SM != S) = false := by simp [hsum]
  have hLI : (LN : Int) ≤ 8192 := by omega
  have hL0I : (0 : Int) < (LN : Int) := by omega
  obtain ⟨i1, hi1, hz0, hz1, hz2⟩ := infoU8
  have HI1 : Hid (Try.prog.info? 5 = some i1) := hi1
  clear hw1 hw2 k1 b1 z1 k2 b2 z2 b12 kw2 ha hh hok hb hSM hsum hPP hi1
  go_enter Try.func98, Try.ntmps98
  go_upto_region 1 with fail
  rw [← (show w2 = _ from HW2)]
  clear HW2
  go_wp2_with fail
  refine HI.mono ?_
  rintro e wA ⟨rfl, kA⟩
  obtain ⟨P5, hP5⟩ : ∃ P5, P5 = wA.heap.size := ⟨_, rfl⟩
  obtain ⟨w3, hw3⟩ : ∃ w3, w3 = wA.alloc (.cells #[.bool true, .int .i64 G, .int .i64 (LN : Int), .int .i64 S] 46) := ⟨_, rfl⟩
  have k3 : Kb 0 w2 w3 := kA.trans (by rw [hw3]; exact kb_alloc _ _ _)
  have b5 : w3.heap[P5]? = some (.cells #[.bool true, .int .i64 G, .int .i64 (LN : Int), .int .i64 S] 46 (0, 0)) := by rw [hw3, hP5]; exact alloc_new _ _ _
  have h0 : w3.cell? ⟨P5, 0, none⟩ = some (.bool true) := cell_of b5 rfl
  have z3 : w3.heap.size = P5 + 1 := by rw [hw3, World.size_alloc, hP5]
  have HC5 : Hid (∀ W, Kb 0 w3 W → W.cell? ⟨P5, 1, none⟩ = some (.int .i64 G) ∧ W.cell? ⟨P5, 2, none⟩ = some (.int .i64 (LN : Int)) ∧ W.cell? ⟨P5, 3, none⟩ = some (.int .i64 S)) := (fun W k => ⟨k.cell (cell_of b5 rfl), k.cell (cell_of b5 rfl), k.cell (cell_of b5 rfl)⟩ : ∀ W, _)
  have HW3 : Hid (w3 = wA.alloc (.cells #[.bool true, .int .i64 G, .int .i64 (LN : Int), .int .i64 S] 46) ∧ P5 = wA.heap.size) := (⟨hw3, hP5⟩ : _ ∧ _)
  have HU : Hid (∀ W, Kb 0 w2 W → W.cell? ⟨w.heap.size, 0, none⟩ = some (.slice p1 D.n c1) ∧ W.cell? ⟨w.heap.size, 1, none⟩ = some (.slice p2 D.m c2)) := (fun W k => ⟨k.cell u0, k.cell u1⟩ : ∀ W, _)
  have HK3 : Hid (Kb 0 w2 w3 ∧ w2.heap.size ≤ P5 ∧ w3.heap.size = P5 + 1) := (⟨k3, by rw [hP5]; exact kA.size, z3⟩ : _ ∧ _)
  have HI0 : Hid (w3.ownsRow (P5 + 1) 5 1 (.slice none 0 0) (0 * 64) (il PP 130 0) ∧ Kb 0 w3 w3) := (⟨World.ownsRow_nil _ _ _ _, Kb.refl _ _⟩ : _ ∧ _)
  clear HI u0 u1 kA hP5 hw3 b5 k3 z3
  go_upto_region 2 with fail
  rw [← (show _ ∧ _ from HW3).1, ← (show _ ∧ _ from HW3).2]
  clear HW3
  go_wp2_with fail
  clear h0
  go_loopw [6, 7] (fun s6 s7 wr => ∃ (i : Nat) (v : Value), s6 = v ∧ s7 = .int .i64 (i : Int) ∧ i ≤ 128 ∧ i * 64 < LN + 64 ∧ Hid (wr.ownsRow (P5 + 1) 5 1 v (i * 64) (il PP 130 i) ∧ Kb 0 w3 wr)) (fun _ s7 _ => 128 - (intOf s7).toNat)
  case atStart => exact ⟨0, _, rfl, rfl, Nat.zero_le _, by omega, HI0⟩
  case round =>
    clear HI0
    obtain ⟨i, v, rfl, rfl, hil, hiL, HX⟩ := hrel
    obtain ⟨hro, hkb⟩ := (show _ ∧ _ from HX)
    obtain ⟨pl, cl, rfl⟩ := own_shape hro
    clear HX
    obtain ⟨c1', c2', c3'⟩ := (show ∀ W, Kb 0 w3 W → _ from HC5) wr hkb
    have hcast : (((i * 64 : Nat)) : Int) = (i : Int) * 64 := by omega
    by_cases hi : i * 64 < LN
    case neg =>
      have hge : ¬ (((i * 64 : Nat)) : Int) < (LN : Int) := by omega
      have hi0 : 0 < i * 64 := by omega
      obtain ⟨g, cap, eg, hgd, hgc, hcell⟩ := own_cells hro hi0
      injection eg with eg1 _ eg3
      subst eg1
      subst eg3
      have hglt := hro.lt g (by rfl)
      have hfz := fun j => hro.frozenAt (g := g) j
      have hNC : LN ≤ cl := by omega
      have hrow : ∀ W, Kb 0 wr W → RowV W (.slice (some ⟨g, 0, none⟩) LN cl) LN (fun j => .int .u8 (img PP 130 j)) := fun W k => ⟨_, _, rfl, fun _ => ⟨_, rfl, hNC, fun j hj => by
        rw [addr0]
        refine k.cell ?_
        rw [hcell j (by omega), il_at PP 130 i j (by omega)]⟩⟩
      obtain ⟨pl, hpl⟩ : ∃ pl, pl = some (⟨g, 0, none⟩ : Addr) := ⟨_, rfl⟩
      have HSM : Hid (∀ W, Kb 0 wr W → Calls Try.prog 101 #[.slice pl LN cl] W fun e w' => e = .returned (.int .u64 (smz (img PP 130) LN)) ∧ w' = W) := (fun W k => by rw [hpl]; exact sp_sum W (hrow W k) (by omega) (fun j hj => (show ∀ j, j < 8192 → _ from HHB) j (by omega)) : ∀ W, _)
      have HCP : Hid (∀ W, Kb 0 wr W → Calls Try.prog 45 #[.slice pl LN cl] W fun e w' => ∃ v g, e = .returned v ∧ OwnR w' v g LN (ub (img PP 130)) ∧ (0 < LN → W.heap.size ≤ g ∧ g < w'.heap.size) ∧ Kb 0 W w') := (fun W k => by rw [hpl]; exact sp_copy W (hrow W k) (by omega) : ∀ W, _)
      have HK2R : Hid (Kb 0 w2 wr) := (show _ ∧ _ from HK3).1.trans hkb
      have HPL : Hid (pl = some (⟨g, 0, none⟩ : Addr)) := hpl
      have HNC : Hid (LN ≤ cl ∧ i ≤ 128) := (⟨hNC, hil⟩ : _ ∧ _)
      have hNCI : (LN : Int) ≤ (cl : Int) := by omega
      clear hro hkb hgd hgc hcell hglt hrow hil hiL hi hi0 hfz HRD HPP HHB HU HI1 hz0 hz1 hz2 hpl HK3 HC5
      go_upto_region 10 with (first | fail)
      rw [← (show pl = _ from HPL)]
      refine AnyL.region (S := fun W' => W'.cell? ⟨P5, 3, none⟩ = some (.int .i64 S)) (z := 100) (by kernel_rfl) ?_
      have hS0 : (fun W' : World => W'.cell? ⟨P5, 3, none⟩ = some (.int .i64 S)) wr.drew := c3'
      have HKD : Hid (Kb 0 wr wr.drew) := (Kb.drewN (Kb.refl _ _) 1 : Kb 0 wr wr.drew)
      have hT00 : wr.drew.cell? ⟨P5, 1, none⟩ = some (.int .i64 G) := c1'
      obtain ⟨W0, hW0⟩ : ∃ W0, W0 = wr.drew := ⟨_, rfl⟩
      rw [← hW0] at HKD hS0 hT00 ⊢
      clear hW0 c1' c2' c3'
      refine AnyL.takeAt 0 (.slice pl LN cl) rfl (by kernel_rfl) (by kernel_rfl) (by kernel_rfl) (by kernel_rfl) (fun _ _ _ h => h) rfl hS0 (by intro W hW; go_simp) ?_
      try simp only [Act.put, List.setIfInBounds_toArray, List.set_cons_zero, List.set_cons_succ]
      refine AnyL.takeAt 3 (.pointer (some ⟨P5, 3, none⟩)) rfl (by kernel_rfl) (by kernel_rfl) (by kernel_rfl) (by kernel_rfl) (fun _ _ _ h => h) rfl hS0 (by intro W hW; go_simp) ?_
      try simp only [Act.put, List.setIfInBounds_toArray, List.set_cons_zero, List.set_cons_succ]
      refine AnyL.takeAt 4 (.int .i64 S) rfl (by kernel_rfl) (by kernel_rfl) (by kernel_rfl) (by kernel_rfl) (fun _ _ _ h => h) rfl hS0 (by intro W hW; go_simp) ?_
      try simp only [Act.put, List.setIfInBounds_toArray, List.set_cons_zero, List.set_cons_succ]
      refine AnyL.oneAt 1 rfl (by kernel_rfl) rfl ?_
      intro K hK
      go_simp
      refine ((show ∀ W, Kb 0 wr W → _ from HSM) W0 HKD).mono ?_
      rintro e W1 ⟨rfl, hW1⟩
      rw [hW1]
      clear hW1
      refine hK.out _ _ (fun _ => hS0) ?_
      clear hK K
      try simp only [Act.put, List.setIfInBounds_toArray, List.set_cons_zero, List.set_cons_succ]
      refine AnyL.takeAt 2 (.int .i64 SM) rfl (by kernel_rfl) (by kernel_rfl) (by kernel_rfl) (by kernel_rfl) (fun _ _ _ h => h) rfl hS0 (by intro W hW; go_simp; first | done | (rw [show IntKind.i64.wrap (smz (img PP 130) LN) = SM from HSW]) | (simp [show IntKind.i64.wrap (smz (img PP 130) LN) = SM from HSW])) ?_
      try simp only [Act.put, List.setIfInBounds_toArray, List.set_cons_zero, List.set_cons_succ]
      refine AnyL.takeAt 5 (.bool (SM != S)) rfl (by kernel_rfl) (by kernel_rfl) (by kernel_rfl) (by kernel_rfl) (fun _ _ _ h => h) rfl hS0 (by intro W hW; go_simp) ?_
      try simp only [Act.put, List.setIfInBounds_toArray, List.set_cons_zero, List.set_cons_succ]
      refine AnyL.done (by kernel_rfl) ?_
      rw [hs2]
      go_upto_region 12 with fail
      refine AnyL.region (S := fun W' => W'.cell? ⟨P5, 1, none⟩ = some (.int .i64 G)) (z := 6) (by kernel_rfl) ?_
      have hT0 : (fun W' : World => W'.cell? ⟨P5, 1, none⟩ = some (.int .i64 G)) W0.drew := hT00
      have HKT : Hid (Kb 0 wr W0.drew) := ((show Kb 0 wr W0 from HKD).trans (Kb.drewN (Kb.refl _ _) 1) : Kb 0 wr W0.drew)
      obtain ⟨W3, hW3⟩ : ∃ W3, W3 = W0.drew := ⟨_, rfl⟩
      rw [← hW3] at HKT hT0 ⊢
      clear hW3 hS0 HKD HSM hT00
      refine AnyL.takeAt 0 (.pointer (some ⟨P5, 1, none⟩)) rfl (by kernel_rfl) (by kernel_rfl) (by kernel_rfl) (by kernel_rfl) (fun _ _ _ h => h) rfl hT0 (by intro W hW; go_simp) ?_
      try simp only [Act.put, List.setIfInBounds_toArray, List.set_cons_zero, List.set_cons_succ]
      refine AnyL.takeAt 1 (.int .i64 G) rfl (by kernel_rfl) (by kernel_rfl) (by kernel_rfl) (by kernel_rfl) (fun _ _ _ h => h) rfl hT0 (by intro W hW; go_simp) ?_
      try simp only [Act.put, List.setIfInBounds_toArray, List.set_cons_zero, List.set_cons_succ]
      refine AnyL.takeAt 2 (.int .i64 1) rfl (by kernel_rfl) (by kernel_rfl) (by kernel_rfl) (by kernel_rfl) (fun _ _ _ h => h) rfl hT0 (by intro W hW; go_simp) ?_
      try simp only [Act.put, List.setIfInBounds_toArray, List.set_cons_zero, List.set_cons_succ]
      refine AnyL.takeAt 3 (.slice pl LN cl) rfl (by kernel_rfl) (by kernel_rfl) (by kernel_rfl) (by kernel_rfl) (fun _ _ _ h => h) rfl hT0 (by intro W hW; go_simp) ?_
      try simp only [Act.put, List.setIfInBounds_toArray, List.set_cons_zero, List.set_cons_succ]
      refine AnyL.oneAt 4 rfl (by kernel_rfl) rfl ?_
      intro K hK
      go_simp
      refine ((show ∀ W, Kb 0 wr W → _ from HCP) W3 HKT).mono ?_
      rintro e W4 ⟨vz, gz, rfl, oz, hgz, kz⟩
      obtain ⟨pz, cz, rfl, -⟩ := oz.sl
      have hT4 : (fun W' : World => W'.cell? ⟨P5, 1, none⟩ = some (.int .i64 G)) W4 := kz.cell hT0
      have k24 := ((show Kb 0 w2 wr from HK2R).trans (show Kb 0 wr W3 from HKT)).trans kz
      have hgz2 := hgz (by omega)
      have zw3 := ((show Kb 0 w2 wr from HK2R).trans (show Kb 0 wr W3 from HKT)).size
      obtain ⟨kw2, b2, z2⟩ := (show _ ∧ _ ∧ _ from HB)
      have bq := (k24.block _ (Nat.zero_le _) (by omega)).trans b2
      obtain ⟨WF, hWF, bF, zF⟩ := four_set (.bool true) (.int .i64 G) (.int .i64 1) (.slice pz LN cz) bq
      have f0 : WF.cell? ⟨w.heap.size + 1, 0, none⟩ = some (.bool true) := cell_of bF rfl
      have f1 : WF.cell? ⟨w.heap.size + 1, 1, none⟩ = some (.int .i64 G) := cell_of bF rfl
      have f2 : WF.cell? ⟨w.heap.size + 1, 2, none⟩ = some (.int .i64 1) := cell_of bF rfl
      have f3 : WF.cell? ⟨w.heap.size + 1, 3, none⟩ = some (.slice pz LN cz) := cell_of bF rfl
      have a0 : W4.cell? ⟨w.heap.size + 1, 0, none⟩ = some (.bool false) := cell_of bq rfl
      have a1 : W4.cell? ⟨w.heap.size + 1, 1, none⟩ = some (.int .i64 0) := cell_of bq rfl
      have a2 : W4.cell? ⟨w.heap.size + 1, 2, none⟩ = some (.int .i64 0) := cell_of bq rfl
      have a3 : W4.cell? ⟨w.heap.size + 1, 3, none⟩ = some (.slice none 0 0) := cell_of bq rfl
      have fy : ∀ j, W4.frozen? ⟨w.heap.size + 1, j, none⟩ = false := fun j => frozen_of bq
      have HF : Hid (∃ g, OwnR WF (.slice pz LN cz) g LN (ub (img PP 130)) ∧ (0 < LN → w.heap.size ≤ g ∧ g < WF.heap.size) ∧ Kb 0 w WF) := (⟨gz, oz.block (fun _ => zF.block gz (by omega)), fun _ => ⟨by omega, by rw [zF.size]; exact hgz2.2⟩, zF.kb (kw2.trans k24) (by omega)⟩ : ∃ g, _)
      have HWF : Hid (WF = _) := hWF
      clear oz hgz kz hT0 k24 hgz2 zw3 kw2 b2 z2 bq hWF bF zF HCP HKT
      refine hK.out _ _ (fun _ => hT4) ?_
      clear hK K
      try simp only [Act.put, List.setIfInBounds_toArray, List.set_cons_zero, List.set_cons_succ]
      refine AnyL.takeAt 5 (.agg #[.bool true, .int .i64 G, .int .i64 1, .slice pz LN cz]) rfl (by kernel_rfl) (by kernel_rfl) (by kernel_rfl) (by kernel_rfl) (fun _ _ _ h => h) rfl hT4 (by intro W hW; go_simp) ?_
      try simp only [Act.put, List.setIfInBounds_toArray, List.set_cons_zero, List.set_cons_succ]
      refine AnyL.oneAt 6 rfl (by kernel_rfl) rfl ?_
      intro K hK
      go_simp
      rw [← (show WF = _ from HWF)]
      clear HWF
      refine hK.out _ _ (fun h => absurd rfl h) ?_
      clear hK K
      try simp only [Act.put, List.setIfInBounds_toArray, List.set_cons_zero, List.set_cons_succ]
      refine AnyL.done (by kernel_rfl) ?_
      go_wp2_with fail
      refine bodyPost_ret (by simp [results, Try.results98, go_sem, f0, f1, f2, f3]; rfl) rfl ?_
      obtain ⟨g9, q1, q2, q3⟩ := (show ∃ g, _ from HF)
      exact ⟨_, g9, rfl, q1, q2, q3⟩
    have hlt : (((i * 64 : Nat)) : Int) < (LN : Int) := by omega
    have hi128 : i < 128 := by omega
    have hiI : (i : Int) < 128 := by omega
    obtain ⟨PC, hPC⟩ : ∃ PC, PC = il PP 130 i := ⟨_, rfl⟩
    have HST : Hid (∀ W6 gz cz, Kb 0 wr W6 → OwnR W6 (.slice (some ⟨gz, 0, none⟩) 64 cz) gz 64 (ub (rdl (fun i => (D.B i).A) D.Q (130 + i) D.m)) → W6.ownsRow (P5 + 1) 5 1 (.slice pl (i * 64) cl) (i * 64) PC ∧ P5 + 1 ≤ W6.heap.size ∧ ∀ (W8 : World) (g cap : Nat), W8.ownsRow (P5 + 1) 5 1 (.slice (some ⟨g, 0, none⟩) (i * 64 + 64) cap) (i * 64 + 64) (PC ++ pgl (rdl (fun i => (D.B i).A) D.Q (130 + i) D.m)) → W6.grownBy W8 (Value.slice pl (i * 64) cl).ownBlock → W8.ownsRow (P5 + 1) 5 1 (.slice (some ⟨g, 0, none⟩) (i * 64 + 64) cap) ((i + 1) * 64) (il PP 130 (i + 1)) ∧ Kb 0 w3 W8 ∧ W8.cell? ⟨w.heap.size, 0, none⟩ = some (.slice p1 D.n c1) ∧ W8.cell? ⟨w.heap.size, 1, none⟩ = some (.slice p2 D.m c2)) := (fun W6 gz cz k6 oz => by
      obtain ⟨k23, hle5, z3⟩ := (show _ ∧ _ ∧ _ from HK3)
      have k36 := hkb.trans k6
      have z36 := k36.size
      refine ⟨by rw [hPC]; exact own_keep hro (fun q hq => k6.block q (Nat.zero_le _) (hro.lt q hq).2), by omega, fun W8 g cap h8 g8 => ?_⟩
      have k38 : Kb 0 w3 W8 := ⟨by rw [g8.os]; exact k36.os, by rw [g8.output]; exact k36.output, Nat.le_trans k36.size g8.size, fun q h1 h2 => (g8.block q (by omega) (fun e => by have := (hro.lt q e.symm).1; omega)).trans (k36.block q h1 h2)⟩
      refine ⟨?_, k38, (show ∀ W, Kb 0 w2 W → _ from HU) W8 (k23.trans k38)⟩
      rw [il, ← hPC, (show ∀ i, _ from HPP) (130 + i), Nat.add_mul, Nat.one_mul]
      exact h8 : ∀ W6 gz cz, _)
    have HK3R : Hid (Kb 0 w2 wr) := (show _ ∧ _ from HK3).1.trans hkb
    obtain ⟨u0, u1⟩ := (show ∀ W, Kb 0 w2 W → _ from HU) wr HK3R
    clear hro hkb hPC hil c1' c3'
    go_upto_region 8 with fail
    refine AnyL.region (S := fun W' => W'.cell? ⟨w.heap.size, 0, none⟩ = some (.slice p1 D.n c1) ∧ W'.cell? ⟨w.heap.size, 1, none⟩ = some (.slice p2 D.m c2)) (z := 100) (by kernel_rfl) ?_
    have hS0 : (fun W' : World => W'.cell? ⟨w.heap.size, 0, none⟩ = some (.slice p1 D.n c1) ∧ W'.cell? ⟨w.heap.size, 1, none⟩ = some (.slice p2 D.m c2)) wr.drew := ⟨u0, u1⟩
    have HKR : Hid (Kb 0 wr wr.drew) := (Kb.drewN (Kb.refl _ _) 1 : Kb 0 wr wr.drew)
    have HKD : Hid (Kb 0 w2 wr.drew) := (show Kb 0 w2 wr from HK3R).trans (Kb.drewN (Kb.refl _ _) 1)
    obtain ⟨W0, hW0⟩ : ∃ W0, W0 = wr.drew := ⟨_, rfl⟩
    rw [← hW0] at HKD HKR hS0 ⊢
    clear hW0 u0 u1 c2'
    refine AnyL.takeAt 0 (.slice pl (i * 64) cl) rfl (by kernel_rfl) (by kernel_rfl) (by kernel_rfl) (by kernel_rfl) (fun _ _ _ h => h) rfl hS0 (by intro W hW; first | go_simp | (obtain ⟨i0, i1⟩ := hW; go_simp)) ?_
    try simp only [Act.put, List.setIfInBounds_toArray, List.set_cons_zero, List.set_cons_succ]
    refine AnyL.takeAt 1 (.agg #[.slice p1 D.n c1, .slice p2 D.m c2]) rfl (by kernel_rfl) (by kernel_rfl) (by kernel_rfl) (by kernel_rfl) (fun _ _ _ h => h) rfl hS0 (by intro W hW; first | go_simp | (obtain ⟨i0, i1⟩ := hW; go_simp)) ?_
    try simp only [Act.put, List.setIfInBounds_toArray, List.set_cons_zero, List.set_cons_succ]
    refine AnyL.takeAt 2 (.int .i64 1) rfl (by kernel_rfl) (by kernel_rfl) (by kernel_rfl) (by kernel_rfl) (fun _ _ _ h => h) rfl hS0 (by intro W hW; first | go_simp | (obtain ⟨i0, i1⟩ := hW; go_simp)) ?_
    try simp only [Act.put, List.setIfInBounds_toArray, List.set_cons_zero, List.set_cons_succ]
    refine AnyL.takeAt 4 (.int .i64 (i : Int)) rfl (by kernel_rfl) (by kernel_rfl) (by kernel_rfl) (by kernel_rfl) (fun _ _ _ h => h) rfl hS0 (by intro W hW; first | go_simp | (obtain ⟨i0, i1⟩ := hW; go_simp)) ?_
    try simp only [Act.put, List.setIfInBounds_toArray, List.set_cons_zero, List.set_cons_succ]
    refine AnyL.oneAt 3 rfl (by kernel_rfl) rfl ?_
    intro K hK
    go_simp
    refine (sp_first1 W0).mono ?_
    rintro e W1 ⟨rfl, hW1⟩
    rw [hW1]
    clear hW1
    refine hK.out _ _ (fun _ => hS0) ?_
    clear hK K
    try simp only [Act.put, List.setIfInBounds_toArray, List.set_cons_zero, List.set_cons_succ]
    refine AnyL.takeAt 5 (.int .i64 ((130 + i : Nat) : Int)) rfl (by kernel_rfl) (by kernel_rfl) (by kernel_rfl) (by kernel_rfl) (fun _ _ _ h => h) rfl hS0 (by intro W hW; go_simp; rw [w64i]; unfold wrap64; omega) ?_
    try simp only [Act.put, List.setIfInBounds_toArray, List.set_cons_zero, List.set_cons_succ]
    refine AnyL.oneAt 6 rfl (by kernel_rfl) rfl ?_
    intro K hK
    go_simp
    refine ((show ∀ W, Kb 0 w2 W → ∀ i, i < 128 → _ from HRD) W0 HKD i hi128).mono ?_
    rintro e W6 ⟨vz, gz, rfl, oz, hgz, kz⟩
    obtain ⟨pz, cz, rfl, hpz⟩ := oz.sl
    obtain ⟨rfl, hcz⟩ := hpz (by omega)
    have hS6 : (fun W' : World => W'.cell? ⟨w.heap.size, 0, none⟩ = some (.slice p1 D.n c1) ∧ W'.cell? ⟨w.heap.size, 1, none⟩ = some (.slice p2 D.m c2)) W6 := ⟨kz.cell hS0.1, kz.cell hS0.2⟩
    obtain ⟨hown6, h6z, HNX⟩ := (show ∀ W6 gz cz, _ from HST) W6 gz cz ((show Kb 0 wr W0 from HKR).trans kz) oz
    have HNX : Hid (∀ (W8 : World) (g cap : Nat), _) := HNX
    have HOZ : Hid ((∀ j u, (pgl (rdl (fun i => (D.B i).A) D.Q (130 + i) D.m))[j]? = some u → W6.cell? ((⟨gz, 0, none⟩ : Addr).add j) = some u)) := (fun j u hu => by
      have hj : j < 64 := by have := (List.getElem?_eq_some_iff.1 hu).1; rw [pgl_len] at this; exact this
      rw [pgl_at _ j hj] at hu
      injection hu with hu
      rw [addr0, oz.cell j hj, ← hu]
      rfl : ∀ j u, _)
    have HG6 : Hid (Kb 0 w2 W6 ∧ gz < W6.heap.size ∧ wr.heap.size ≤ gz) := (⟨(show Kb 0 w2 W0 from HKD).trans kz, hgz.2, by have := (show Kb 0 wr W0 from HKR).size; omega⟩ : _ ∧ _)
    clear HRD HST oz hgz kz hpz HKD HKR hS0
    refine hK.out _ _ (fun _ => hS6) ?_
    clear hK K
    try simp only [Act.put, List.setIfInBounds_toArray, List.set_cons_zero, List.set_cons_succ]
    refine AnyL.oneAt 7 rfl (by kernel_rfl) rfl ?_
    intro K hK
    refine wp_append_lies _ (.tmp 22) (.tmp 28) 26 rfl (P5 + 1) 5 i1 (.int .u8 0) 1 1 Try.underlying26 HI1 hz0 hz1 hz2 rfl (by decide) (.slice pl (i * 64) cl) (i * 64) PC rfl hown6 ⟨gz, 0, none⟩ 64 cz (pgl (rdl (fun i => (D.B i).A) D.Q (130 + i) D.m)) rfl (by rw [pgl_len]) HOZ (pgl_one _) (by decide) (by unfold maxLen; omega) (by omega) h6z _ rfl ?_
    intro g' cap' w8 hown1 hgrow1 hat hlt
    have HN := (show ∀ (W8 : World) (g cap : Nat), _ from HNX) w8 g' cap' hown1 hgrow1
    have hS8 : (fun W' : World => W'.cell? ⟨w.heap.size, 0, none⟩ = some (.slice p1 D.n c1) ∧ W'.cell? ⟨w.heap.size, 1, none⟩ = some (.slice p2 D.m c2)) w8 := HN.2.2
    have HN2 : Hid (w8.ownsRow (P5 + 1) 5 1 (.slice (some ⟨g', 0, none⟩) (i * 64 + 64) cap') ((i + 1) * 64) (il PP 130 (i + 1)) ∧ Kb 0 w3 w8) := (⟨HN.1, HN.2.1⟩ : _ ∧ _)
    clear hown1 hgrow1 hat hlt HNX HOZ HG6 hS6 HN hown6 h6z
    refine hK.out _ _ (fun _ => hS8) ?_
    clear hK K
    try simp only [Act.put, List.setIfInBounds_toArray, List.set_cons_zero, List.set_cons_succ]
    refine AnyL.takeAt 8 (.slice (some ⟨g', 0, none⟩) (i * 64 + 64) cap') rfl (by kernel_rfl) (by kernel_rfl) (by kernel_rfl) (by kernel_rfl) (fun _ _ _ h => h) rfl hS8 (by intro W hW; first | go_simp | (obtain ⟨i0, i1⟩ := hW; go_simp)) ?_
    try simp only [Act.put, List.setIfInBounds_toArray, List.set_cons_zero, List.set_cons_succ]
    refine AnyL.done (by kernel_rfl) ?_
    go_wp2_with fail
    go_roundw
    case rel => exact ⟨i + 1, _, rfl, by go_num, by omega, by omega, by have e : (i + 1) * 64 = i * 64 + 64 := by omega
                                                                        rw [e] at HN2 ⊢
                                                                        exact HN2⟩
    case measure => simp [intOf]; omega
end Go.Proofs.Ytaggciimacanbaa.Fo
