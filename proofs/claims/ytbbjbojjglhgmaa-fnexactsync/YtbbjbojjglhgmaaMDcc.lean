import Derived.Test.YtbbjbojjglhgmaaMDcb
namespace Go.Proofs.Ytbbjbojjglhgmaa.Fo
open Go.ChangeShapes Go.WideShapes Go.ChangeAt Go.RowKit
set_option linter.unusedVariables false
set_option maxRecDepth 100000
theorem infoBB : ∃ i1, Try.prog.info? 22 = some i1 ∧ i1.zero = some (.slice none 0 0) ∧ i1.size = 1 ∧ i1.bytes = 24 := ⟨Try.t22, by kernel_rfl, by kernel_rfl, by kernel_rfl, by kernel_rfl⟩
set_option maxHeartbeats 8000000 in
theorem sp_blank (w : World) : Calls Try.prog 23 #[] w fun e w' => ∃ v1 v2, e = .returned (.agg #[v1, v2]) ∧ OwD w.heap.size w'.heap.size w' v1 v2 blD ∧ Kb 0 w w' := by
  have hmk : ∀ W : World, _ := fun W => run_make (P := Try.prog) W 22 5 Try.t5 (.int .u8 0) Try.underlying22 (by kernel_rfl) (by kernel_rfl) .i64 .i64 64 64 (by omega) (Int.le_refl _) (by decide) (by omega)
  have hmk2 : ∀ W : World, _ := fun W => (hmk W).trans (show _ = Result.ok (.slice (some ⟨W.heap.size, 0, none⟩) 64 64) (W.alloc (.cells M64 5)) from rfl)
  clear hmk
  obtain ⟨w2, hw2⟩ : ∃ w2, w2 = (w.alloc (.cells #[.slice none 0 0, .slice none 0 0] 40)).alloc (.cells #[.slice none 0 0, .slice none 0 0] 40) := ⟨_, rfl⟩
  have HB0 : Hid (BI w (fun _ => zE) 0 (.slice none 0 0) w2) := BI.start w _ w2 hw2
  have HW2 : Hid (w2 = _) := hw2
  clear hw2
  obtain ⟨i1, hi1, hz0, hz1, hz2⟩ := infoBB
  have HI1 : Hid (Try.prog.info? 22 = some i1) := hi1
  clear hi1
  go_enter Try.func23, Try.ntmps23
  go_upto_region 2 with fail
  rw [← (show w2 = _ from HW2)]
  clear HW2
  go_wp2_with fail
  go_loopw [2] (fun s2 wr => ∃ (i : Nat) (v : Value), s2 = .int .i64 (i : Int) ∧ i ≤ 258 ∧ Hid (BI w (fun _ => zE) i v wr)) (fun s2 _ => 258 - (intOf s2).toNat)
  case atStart => exact ⟨0, _, rfl, Nat.zero_le _, HB0⟩
  case round =>
    clear HB0
    obtain ⟨i, v, rfl, hil, HX⟩ := hrel
    have hX := (show BI w (fun _ => zE) i v wr from HX)
    obtain ⟨pv, cv, rfl⟩ := hX.shape
    clear HX
    by_cases hi : i < 258
    case neg =>
      obtain rfl : i = 258 := by omega
      obtain ⟨_, r, d, _, _⟩ := id hX
      have c0 : wr.cell? ⟨w.heap.size + 1, 0, none⟩ = some (.slice pv 258 cv) := cell_of d rfl
      have c1 : wr.cell? ⟨w.heap.size + 1, 1, none⟩ = some (.slice none 0 0) := cell_of d rfl
      have a0 : wr.cell? ⟨w.heap.size, 0, none⟩ = some (.slice none 0 0) := cell_of r rfl
      have a1 : wr.cell? ⟨w.heap.size, 1, none⟩ = some (.slice none 0 0) := cell_of r rfl
      have fy : ∀ j, wr.frozen? ⟨w.heap.size, j, none⟩ = false := fun j => frozen_of r
      have HX : Hid (BI w (fun _ => zE) 258 (.slice pv 258 cv) wr) := hX
      clear hX r d hmk2 HI1 hz0 hz1 hz2 hil hi
      go_wp2_with fail
      obtain ⟨WF, hWF⟩ : ∃ WF, WF = (wr.setCell ⟨w.heap.size, 0, none⟩ (.slice pv 258 cv)).setCell ⟨w.heap.size, 1, none⟩ (.slice none 0 0) := ⟨_, rfl⟩
      obtain ⟨f1, f2, f3, f4⟩ := (show BI w (fun _ => zE) 258 (.slice pv 258 cv) wr from HX).fin (Q := fun _ => zE) WF hWF
      rw [← hWF]
      clear hWF HX
      refine bodyPost_ret (by simp [results, Try.results23, go_sem, f3, f4]; rfl) rfl ?_
      exact ⟨_, _, rfl, f1, f2⟩
    have hI : (i : Int) < 258 := by omega
    have HST : Hid (∀ W : World, Kb 0 wr W → ∃ CL, ((W.alloc (.cells M64 5)).cell? ⟨w.heap.size + 1, 0, none⟩ = some (.slice pv i cv) ∧ (∀ ob, ((W.alloc (.cells M64 5)).alloc ob).cell? ⟨w.heap.size + 1, 0, none⟩ = some (.slice pv i cv)) ∧ w.heap.size + 2 ≤ (W.alloc (.cells M64 5)).heap.size ∧ (W.alloc (.cells M64 5)).ownsRow (w.heap.size + 2) 22 1 (.slice pv i cv) i CL) ∧
      ∀ (ob : Obj) (W8 : World) (g cap : Nat), W8.ownsRow (w.heap.size + 2) 22 1 (.slice (some ⟨g, 0, none⟩) (i + 1) cap) (i + 1) (CL ++ [.slice (some ⟨W.heap.size, 0, none⟩) 64 64]) → ((W.alloc (.cells M64 5)).alloc ob).grownBy W8 (Value.slice pv i cv).ownBlock → ((Value.slice pv i cv).ownBlock = some g ∨ g = (W.alloc (.cells M64 5)).heap.size + 1) →
        (W8.cell? ⟨w.heap.size + 1, 0, none⟩ = some (.slice pv i cv) ∧ ∀ j, W8.frozen? ⟨w.heap.size + 1, j, none⟩ = false) ∧ BI w (fun _ => zE) (i + 1) (.slice (some ⟨g, 0, none⟩) (i + 1) cap) (W8.setCell ⟨w.heap.size + 1, 0, none⟩ (.slice (some ⟨g, 0, none⟩) (i + 1) cap))) := (fun W kW => (hX.keep kW).step (kb_alloc 0 W _) (own_made W _ rfl) (fun _ => ⟨Nat.le_refl _, by rw [World.size_alloc]; omega⟩) : ∀ W : World, _)
    have c0 : wr.cell? ⟨w.heap.size + 1, 0, none⟩ = some (.slice pv i cv) := by obtain ⟨_, r, d, _, _⟩ := id hX; exact cell_of d rfl
    clear hX hil
    go_upto_region 5 with fail
    refine AnyL.region (S := fun W' => W'.cell? ⟨w.heap.size + 1, 0, none⟩ = some (.slice pv i cv)) (z := 6) (by kernel_rfl) ?_
    have hS0 : (fun W' : World => W'.cell? ⟨w.heap.size + 1, 0, none⟩ = some (.slice pv i cv)) wr.drew := c0
    obtain ⟨CL, ⟨hS6, hS6a, h6z, hown6⟩, H8⟩ := (show ∀ W : World, Kb 0 wr W → _ from HST) wr.drew (Kb.drewN (Kb.refl _ _) 1)
    obtain ⟨W0, hW0⟩ : ∃ W0, W0 = wr.drew := ⟨_, rfl⟩
    rw [← hW0] at hS0 hS6 hS6a h6z hown6 H8 ⊢
    have HS8 : Hid (∀ (ob : Obj) (W8 : World) (g cap : Nat), _) := H8
    clear c0 HST H8 hW0
    refine AnyL.takeAt 0 (.pointer (some ⟨w.heap.size + 1, 0, none⟩)) rfl (by kernel_rfl) (by kernel_rfl) (by kernel_rfl) (by kernel_rfl) (fun _ _ _ h => h) rfl hS0 (by intro W hW; go_simp) ?_
    try simp only [Act.put, List.setIfInBounds_toArray, List.set_cons_zero, List.set_cons_succ]
    refine AnyL.takeAt 1 (.slice pv i cv) rfl (by kernel_rfl) (by kernel_rfl) (by kernel_rfl) (by kernel_rfl) (fun _ _ _ h => h) rfl hS0 (by intro W hW; go_simp) ?_
    try simp only [Act.put, List.setIfInBounds_toArray, List.set_cons_zero, List.set_cons_succ]
    refine AnyL.oneAt 2 rfl (by kernel_rfl) rfl ?_
    intro K hK
    go_simp
    obtain ⟨W6, hW6⟩ : ∃ W6, W6 = W0.alloc (.cells M64 5) := ⟨_, rfl⟩
    rw [← hW6] at hS6 hS6a h6z hown6 HS8 ⊢
    clear hW6
    refine hK.out _ _ (fun _ => hS6) ?_
    clear hK K
    try simp only [Act.put, List.setIfInBounds_toArray, List.set_cons_zero, List.set_cons_succ]
    refine AnyL.oneAt 3 rfl (by kernel_rfl) rfl ?_
    intro K hK
    go_simp
    refine hK.out _ _ (fun _ => hS6a _) ?_
    clear hK K
    try simp only [Act.put, List.setIfInBounds_toArray, List.set_cons_zero, List.set_cons_succ]
    refine AnyL.oneAt 4 rfl (by kernel_rfl) rfl ?_
    intro K hK
    refine wp_append_lies _ (.tmp 8) (.tmp 10) 37 rfl (w.heap.size + 2) 22 i1 (.slice none 0 0) 1 24 Try.underlying37 HI1 hz0 hz1 hz2 rfl (by decide) (.slice pv i cv) i CL rfl (hown6.alloc _) ⟨W6.heap.size, 0, none⟩ 1 1 [.slice (some ⟨W0.heap.size, 0, none⟩) 64 64] rfl rfl (qr_cells W6 #[.slice (some ⟨W0.heap.size, 0, none⟩) 64 64] 22 [.slice (some ⟨W0.heap.size, 0, none⟩) 64 64] rfl) (by intro y hy; simp only [List.mem_cons, List.not_mem_nil, or_false] at hy; rcases hy with rfl; rfl) (by decide) (by unfold maxLen; omega) (by omega) (by rw [World.size_alloc]; omega) (W6.heap.size + 1) (World.size_alloc _ _) ?_
    intro g cap w8 hown1 hgrow1 hat hlt
    obtain ⟨⟨x1, x2⟩, hBI⟩ := (show ∀ (ob : Obj) (W8 : World) (g cap : Nat), _ from HS8) _ w8 g cap hown1 hgrow1 hat
    have HBI : Hid (BI w (fun _ => zE) (i + 1) (.slice (some ⟨g, 0, none⟩) (i + 1) cap) (w8.setCell ⟨w.heap.size + 1, 0, none⟩ (.slice (some ⟨g, 0, none⟩) (i + 1) cap))) := hBI
    clear HS8 hown1 hgrow1 hat hlt hBI hS6 hS6a hown6
    refine hK.out _ _ (fun _ => x1) ?_
    clear hK K
    try simp only [Act.put, List.setIfInBounds_toArray, List.set_cons_zero, List.set_cons_succ]
    refine AnyL.takeAt 5 (.pointer (some ⟨w.heap.size + 1, 0, none⟩)) rfl (by kernel_rfl) (by kernel_rfl) (by kernel_rfl) (by kernel_rfl) (fun _ _ _ h => h) rfl x1 (by intro W hW; go_simp) ?_
    try simp only [Act.put, List.setIfInBounds_toArray, List.set_cons_zero, List.set_cons_succ]
    refine AnyL.oneAt 6 rfl (by kernel_rfl) rfl ?_
    intro K hK
    go_simp
    refine hK.out _ _ (fun h => absurd rfl h) ?_
    clear hK K x1 x2
    try simp only [Act.put, List.setIfInBounds_toArray, List.set_cons_zero, List.set_cons_succ]
    refine AnyL.done (by kernel_rfl) ?_
    go_wp2_with fail
    go_roundw
    case rel => exact ⟨i + 1, _, by go_num, by omega, HBI⟩
    case measure => simp [intOf]; omega
end Go.Proofs.Ytbbjbojjglhgmaa.Fo
