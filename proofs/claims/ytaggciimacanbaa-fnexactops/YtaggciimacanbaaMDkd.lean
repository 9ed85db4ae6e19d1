import Derived.Test.YtaggciimacanbaaMDka
import Derived.Test.YtaggciimacanbaaMDcc
namespace Go.Proofs.Ytaggciimacanbaa.Fo
open Go.ChangeShapes Go.WideShapes Go.ChangeAt Go.RowKit
set_option linter.unusedVariables false
set_option maxRecDepth 100000
set_option linter.unusedSimpArgs false
theorem rowv_kq {W W' : World} {v : Value} {n : Nat} {A : Nat → Value} (h : RowV W v n A) (k : Kb 0 W W') : RowV W' v n A := by
  obtain ⟨pa, cap, e, h2⟩ := h
  refine ⟨pa, cap, e, fun hn => ?_⟩
  obtain ⟨a, h3, h4, h5⟩ := h2 hn
  exact ⟨a, h3, h4, fun i hi => k.cell (h5 i hi)⟩
theorem anyl_two {P : Program} {Q : Exit → Act → World → Prop} {md : Region.Mode} {S : World → Prop} {z : Nat} (i j : Nat) {l : List Oper} {oi oj : Oper} {k : Nat} {listed : Array Bool} {a : Act} {w : World} (hoi : l[i]? = some oi) (hoj : l[j]? = some oj) (hr : Region.ready md l.toArray listed = [i, j]) (hwi : Region.wanted oi (yielded l.toArray a.tmps) = true) (hwj : Region.wanted oj (yielded l.toArray a.tmps) = true)
    (h1 : ∀ K : Act → World → Prop, Shut (∀ a' w', (i ≠ z → S w') → AnyL P md l.toArray Q S z k (listed.setIfInBounds i true) a' w' → K a' w') → Oper.wp P oi a w K Q)
    (h2 : ∀ K : Act → World → Prop, Shut (∀ a' w', (j ≠ z → S w') → AnyL P md l.toArray Q S z k (listed.setIfInBounds j true) a' w' → K a' w') → Oper.wp P oj a w K Q) : AnyL P md l.toArray Q S z (k + 1) listed a w := by
  refine ⟨fun h => absurd h (by rw [hr]; simp), fun q hq => ?_⟩
  rw [hr] at hq
  have hq2 : q = i ∨ q = j := by simpa using hq
  rcases hq2 with rfl | rfl
  · unfold wpOp
    simp only [List.getElem?_toArray, hoi, hwi, if_true]
    exact Or.inl (h1 _ (fun a' w' h1 h2 => ⟨h1, h2⟩))
  · unfold wpOp
    simp only [List.getElem?_toArray, hoj, hwj, if_true]
    exact Or.inl (h2 _ (fun a' w' h1 h2 => ⟨h1, h2⟩))
set_option maxHeartbeats 64000000 in
theorem sp_lops_1 {v1 v2 : Value} {D : Dd} {pa : Option Addr} {n ca : Nat} {A : Nat → Int} {xg : Int} {xn : Nat} {xA : Nat → Int} (w : World) (ha : RowD 0 w v1 v2 D) (hi : RowV w (.slice pa n ca) n (ub A)) (hn0 : 0 < n) (hn : n ≤ 8192) (hA : ∀ j, j < n → 0 ≤ A j ∧ A j ≤ 255) (hg0 : 0 ≤ xg) (hg1 : xg < 1000000000000) (hN : ∀ x1 x2 W, RowD 0 W x1 x2 D → Calls Try.prog 62 #[.agg #[x1, x2]] W (KiP true xg 0 xn xA W)) :
    Calls Try.prog 65 #[.agg #[v1, v2], .slice pa n ca] w fun e w' => ∃ v, e = .returned v ∧ RowE 3 0 w' v (opn n + 3) (opF A n 1 130 xg) ∧ Kb 0 w w' := by
  obtain ⟨⟨p1, c1, rfl, -⟩, ⟨p2, c2, rfl, -⟩⟩ := id ha
  obtain ⟨w1, hw1⟩ : ∃ w1, w1 = w.alloc (.cells #[.slice p1 D.n c1, .slice p2 D.m c2] 30) := ⟨_, rfl⟩
  have k1 : Kb 0 w w1 := by rw [hw1]; exact kb_alloc _ _ _
  have b1 : w1.heap[w.heap.size]? = some (.cells #[.slice p1 D.n c1, .slice p2 D.m c2] 30 (0, 0)) := by rw [hw1]; exact alloc_new _ _ _
  have u0 : w1.cell? ⟨w.heap.size, 0, none⟩ = some (.slice p1 D.n c1) := cell_of b1 rfl
  have u1 : w1.cell? ⟨w.heap.size, 1, none⟩ = some (.slice p2 D.m c2) := cell_of b1 rfl
  have HNC := hN _ _ w1 (ha.keep k1)
  have HW1 : Hid (w1 = w.alloc (.cells #[.slice p1 D.n c1, .slice p2 D.m c2] 30)) := hw1
  have HK1 : Hid (Kb 0 w w1) := k1
  obtain ⟨F, hF⟩ : ∃ F, F = opF A n 1 130 xg := ⟨_, rfl⟩
  rw [← hF]
  have HF : Hid (F = opF A n 1 130 xg) := hF
  have HIM : Hid ((∀ W, Kb 0 w W → RowV W (.slice pa n ca) n (ub A)) ∧ ∀ j, j < n → 0 ≤ A j ∧ A j ≤ 255) := (⟨fun W k => rowv_kq hi k, hA⟩ : _ ∧ _)
  have hnI : (n : Int) ≤ 8192 := by omega
  have hn0I : (0 : Int) < (n : Int) := by omega
  have hxgn : ¬ xg = 1000000000000 := by omega
  have hxg2 : (xg == 1000000000000) = false := by simp [hxgn]
  obtain ⟨i1, hi1, hz0, hz1, hz2⟩ := infoOp
  have HI1 : Hid (Try.prog.info? 96 = some i1) := hi1
  clear hw1 k1 b1 ha hi hA hN hi1 hF
  go_enter Try.func65, Try.ntmps65
  go_upto_region 1 with fail
  rw [← (show w1 = _ from HW1)]
  clear HW1
  go_wp2_with fail
  refine HNC.mono ?_
  rintro e wA ⟨vb', gb, rfl, ob, hgb, kA⟩
  obtain ⟨pb, cb, rfl, -⟩ := ob.sl
  obtain ⟨P5, hP5⟩ : ∃ P5, P5 = wA.heap.size := ⟨_, rfl⟩
  obtain ⟨w3, hw3⟩ : ∃ w3, w3 = wA.alloc (.cells #[.bool true, .int .i64 xg, .int .i64 0, .slice pb xn cb] 51) := ⟨_, rfl⟩
  have kA3 : Kb 0 wA w3 := by rw [hw3]; exact kb_alloc _ _ _
  have b5 : w3.heap[P5]? = some (.cells #[.bool true, .int .i64 xg, .int .i64 0, .slice pb xn cb] 51 (0, 0)) := by rw [hw3, hP5]; exact alloc_new _ _ _
  have e0 : w3.cell? ⟨P5, 0, none⟩ = some (.bool true) := cell_of b5 rfl
  have e1 : w3.cell? ⟨P5, 1, none⟩ = some (.int .i64 xg) := cell_of b5 rfl
  have e2 : w3.cell? ⟨P5, 2, none⟩ = some (.int .i64 0) := cell_of b5 rfl
  have HK3 : Hid (Kb 0 w w3 ∧ (∀ W, Kb 0 w3 W → W.cell? ⟨P5, 1, none⟩ = some (.int .i64 xg))) := (⟨((show Kb 0 w w1 from HK1).trans kA).trans kA3, fun W k => k.cell e1⟩ : _ ∧ _)
  have HW3 : Hid (w3 = wA.alloc (.cells #[.bool true, .int .i64 xg, .int .i64 0, .slice pb xn cb] 51) ∧ P5 = wA.heap.size) := (⟨hw3, hP5⟩ : _ ∧ _)
  obtain ⟨B0, hB0⟩ : ∃ B0, B0 = w3.heap.size := ⟨_, rfl⟩
  have HB0 : Hid (B0 = w3.heap.size) := hB0
  have HX0 : Hid (BRd B0 w3 (.slice none 0 0) 0 F (fun _ => .slice none 0 0) ∧ Kb 0 w3 w3) := (⟨BRd.nil _ _ _ _, Kb.refl _ _⟩ : _ ∧ _)
  clear HNC u0 u1 ob hgb kA hP5 hw3 kA3 b5 HK1 hB0
  go_upto_region 2 with fail
  rw [← (show _ ∧ _ from HW3).1, ← (show _ ∧ _ from HW3).2]
  clear HW3
  go_wp2_with fail
  clear e0 e1 e2
  go_loopw [7, 8] (fun s7 s8 wr => ∃ (i a9 : Nat) (v : Value) (V : Nat → Value), s7 = v ∧ s8 = .int .i64 (a9 : Int) ∧ i ≤ opn n ∧ Hid (BRd B0 wr v i F V ∧ Kb 0 w3 wr ∧ a9 = i * 64)) (fun _ s8 _ => 16384 - (intOf s8).toNat)
  case atStart => exact ⟨0, 0, _, _, rfl, rfl, Nat.zero_le _, ⟨(show _ ∧ _ from HX0).1, (show _ ∧ _ from HX0).2, rfl⟩⟩
  case round =>
    clear HX0
    obtain ⟨i, a9, v, V, rfl, rfl, hil, HX⟩ := hrel
    obtain ⟨hX, hkb, h9⟩ := (show _ ∧ _ ∧ _ from HX)
    obtain ⟨pl, cl, rfl⟩ := own_shape hX.ro
    clear HX
    have hon : opn n ≤ 128 := by unfold opn; omega
    have hBr : B0 ≤ wr.heap.size := by rw [show B0 = _ from HB0]; exact hkb.size
    by_cases hi : i * 64 < n
    case neg =>
      have hik : i = opn n := by unfold opn at hil ⊢; omega
      have hge : ¬ (a9 : Int) < (n : Int) := by omega
      have hi128 : (i : Int) ≤ 128 := by omega
      have eF : F i = ⟨true, 0, 0, fun _ => 0⟩ := by rw [show F = _ from HF, hik]; exact opF_s (by omega) (by omega)
      have hox : RdB wr.heap.size wr (.slice none 0 0) (F i).c (F i).A none := by rw [eF]; exact ⟨_, _, rfl, fun h => absurd h (Nat.lt_irrefl 0)⟩
      have kr := Kb.refl 0 wr
      obtain ⟨PC, hPC⟩ : ∃ PC, PC = cel 3 F V (i) := ⟨_, rfl⟩
      have HOW : Hid (wr.ownsRow B0 96 3 (.slice pl (i) cl) (i) PC ∧ B0 ≤ wr.heap.size) := (⟨by rw [hPC]; exact (hX.keep kr.size (fun q _ h2 => kr.block q (Nat.zero_le _) h2)).ro, Nat.le_trans hBr kr.size⟩ : _ ∧ _)
      have HPU : Hid (∀ (ob : Obj) (W8 : World) (g cap : Nat), W8.ownsRow B0 96 3 (.slice (some ⟨g, 0, none⟩) (i + 1) cap) (i + 1) (PC ++ [.bool true, .int .i64 0, .slice none 0 0]) → (wr.alloc ob).grownBy W8 (Value.slice pl (i) cl).ownBlock → ((Value.slice pl (i) cl).ownBlock = some g ∨ g = wr.heap.size + 1) → ∃ V', BRd B0 W8 (.slice (some ⟨g, 0, none⟩) (i + 1) cap) (i + 1) F V' ∧ Kb 0 w3 W8) := (fun ob W8 g cap h8 g8 ha => by
        have st := hX.step hBr kr hox (ob := ob) (by rw [← hPC, eF]; exact h8) g8 ha
        have k36 := hkb.trans kr
        have hb0 := (show B0 = _ from HB0)
        have z36 := k36.size
        refine ⟨_, st, ⟨by rw [g8.os]; exact k36.os, by rw [g8.output]; exact k36.output, by have := g8.size; rw [World.size_alloc] at this; omega, fun q h1 h2 => ?_⟩⟩
        exact ((g8.block q (by rw [World.size_alloc]; omega) (fun e => by have := (hX.ro.lt q e.symm).1; omega)).trans ((kb_alloc 0 _ ob).block q (Nat.zero_le _) (by omega))).trans (k36.block q h1 h2) : ∀ (ob : Obj) (W8 : World) (g cap : Nat), _)
      have HIK : Hid (i = opn n) := hik
      obtain ⟨SM, hSM⟩ : ∃ SM, SM = sgz A n := ⟨_, rfl⟩
      have HSM : Hid ((∀ W, Kb 0 w3 W → Calls Try.prog 101 #[.slice pa n ca] W fun e w' => e = .returned (.int .u64 (smz A n)) ∧ w' = W) ∧ IntKind.i64.wrap (smz A n) = SM ∧ SM = sgz A n) := (⟨fun W k => sp_sum W ((show _ ∧ _ from HIM).1 W ((show _ ∧ _ from HK3).1.trans k)) (by omega) (show _ ∧ _ from HIM).2, by rw [hSM, w64i]; rfl, hSM⟩ : _ ∧ _)
      clear hX hkb hBr eF hox kr hPC hik hi hil h9 hSM
      go_upto_region 18 with (refine wpList_append_lies _ (by rfl) (.tmp 63) (.tmp 65) 56 (by rfl) B0 96 i1 (.agg #[.bool false, .int .i64 0, .slice none 0 0]) 3 40 Try.underlying56 HI1 hz0 hz1 hz2 rfl (by decide) (.slice pl (i) cl) (i) PC (by rfl) ((show _ ∧ _ from HOW).1.alloc _) ⟨wr.heap.size, 0, none⟩ 1 1 [.bool true, .int .i64 0, .slice none 0 0] (by rfl) (by rfl) (qr_cells wr #[.bool true, .int .i64 0, .slice none 0 0] 96 [.bool true, .int .i64 0, .slice none 0 0] rfl) (by intro y hy; simp only [List.mem_cons, List.not_mem_nil, or_false] at hy; rcases hy with rfl | rfl | rfl <;> rfl) (by decide) (by unfold maxLen; omega) (by omega) (by rw [World.size_alloc]; have := (show _ ∧ _ from HOW).2; omega) (wr.heap.size + 1) (World.size_alloc _ _) ?_; intro g' cap' w8 hown1 hgrow1 hat hlt; have HN := (show ∀ (ob : Obj) (W8 : World) (g cap : Nat), _ from HPU) _ w8 g' cap' hown1 hgrow1 hat; clear hown1 hgrow1 hat hlt)
      obtain ⟨V1, hX, hkb⟩ := HN
      have HXX : Hid (BRd B0 w8 (.slice (some ⟨g', 0, none⟩) (i + 1) cap') (i + 1) F V1 ∧ Kb 0 w3 w8) := (⟨hX, hkb⟩ : _ ∧ _)
      have e1 := (show _ ∧ _ from HK3).2 w8 hkb
      have hxp : xg + 1 < 9223372036854775808 := by omega
      clear hX hkb HOW HPU
      refine AnyL.region (S := fun W' => W'.cell? ⟨P5, 1, none⟩ = some (.int .i64 xg)) (z := 10) (by kernel_rfl) ?_
      have hS0 : (fun W' : World => W'.cell? ⟨P5, 1, none⟩ = some (.int .i64 xg)) w8.drew := e1
      have HKD : Hid (Kb 0 w8 w8.drew) := (Kb.drewN (Kb.refl _ _) 1 : Kb 0 w8 w8.drew)
      obtain ⟨W0, hW0⟩ : ∃ W0, W0 = w8.drew := ⟨_, rfl⟩
      rw [← hW0] at HKD hS0 ⊢
      clear hW0 e1
      refine AnyL.takeAt 0 (.pointer (some ⟨P5, 1, none⟩)) rfl (by kernel_rfl) (by kernel_rfl) (by kernel_rfl) (by kernel_rfl) (fun _ _ _ h => h) rfl hS0 (by intro W hW; go_simp) ?_
      try simp only [Act.put, List.setIfInBounds_toArray, List.set_cons_zero, List.set_cons_succ]
      refine AnyL.takeAt 1 (.int .i64 xg) rfl (by kernel_rfl) (by kernel_rfl) (by kernel_rfl) (by kernel_rfl) (fun _ _ _ h => h) rfl hS0 (by intro W hW; go_simp) ?_
      try simp only [Act.put, List.setIfInBounds_toArray, List.set_cons_zero, List.set_cons_succ]
      refine AnyL.takeAt 2 (.int .i64 (xg + 1)) rfl (by kernel_rfl) (by kernel_rfl) (by kernel_rfl) (by kernel_rfl) (fun _ _ _ h => h) rfl hS0 (by intro W hW; go_simp; rw [w64i]; unfold wrap64; omega) ?_
      try simp only [Act.put, List.setIfInBounds_toArray, List.set_cons_zero, List.set_cons_succ]
      refine AnyL.takeAt 3 (.slice pa n ca) rfl (by kernel_rfl) (by kernel_rfl) (by kernel_rfl) (by kernel_rfl) (fun _ _ _ h => h) rfl hS0 (by intro W hW; go_simp) ?_
      try simp only [Act.put, List.setIfInBounds_toArray, List.set_cons_zero, List.set_cons_succ]
      refine AnyL.takeAt 4 (.int .i64 (n : Int)) rfl (by kernel_rfl) (by kernel_rfl) (by kernel_rfl) (by kernel_rfl) (fun _ _ _ h => h) rfl hS0 (by intro W hW; go_simp) ?_
      try simp only [Act.put, List.setIfInBounds_toArray, List.set_cons_zero, List.set_cons_succ]
      refine AnyL.takeAt 5 (.slice pa n ca) rfl (by kernel_rfl) (by kernel_rfl) (by kernel_rfl) (by kernel_rfl) (fun _ _ _ h => h) rfl hS0 (by intro W hW; go_simp) ?_
      try simp only [Act.put, List.setIfInBounds_toArray, List.set_cons_zero, List.set_cons_succ]
      have HKK9 : Hid (∀ W, Kb 0 w8 W → Kb 0 w3 W) := (fun W k => (show _ ∧ _ from HXX).2.trans k : ∀ W, _)
      refine anyl_two 6 9 rfl rfl (by kernel_rfl) rfl rfl ?_ ?_
      · intro K hK
        go_simp
        refine ((show _ ∧ _ from HSM).1 W0 ((show ∀ W, Kb 0 w8 W → _ from HKK9) W0 HKD)).mono ?_
        rintro e x1 ⟨rfl, hx1⟩
        rw [hx1]
        clear hx1
        refine hK.out _ _ (fun _ => hS0) ?_
        clear hK K
        try simp only [Act.put, List.setIfInBounds_toArray, List.set_cons_zero, List.set_cons_succ]
        refine AnyL.takeAt 7 (.int .i64 SM) rfl (by kernel_rfl) (by kernel_rfl) (by kernel_rfl) (by kernel_rfl) (fun _ _ _ h => h) rfl hS0 (by intro W hW; go_simp; rw [show IntKind.i64.wrap (smz A n) = SM from (show _ ∧ _ ∧ _ from HSM).2.1]) ?_
        try simp only [Act.put, List.setIfInBounds_toArray, List.set_cons_zero, List.set_cons_succ]
        refine AnyL.takeAt 8 (.agg #[.bool true, .int .i64 (xg + 1), .int .i64 (n : Int), .int .i64 SM]) rfl (by kernel_rfl) (by kernel_rfl) (by kernel_rfl) (by kernel_rfl) (fun _ _ _ h => h) rfl hS0 (by intro W hW; go_simp) ?_
        try simp only [Act.put, List.setIfInBounds_toArray, List.set_cons_zero, List.set_cons_succ]
        refine AnyL.oneAt 9 rfl (by kernel_rfl) rfl ?_
        intro K hK
        go_simp
        obtain ⟨WA, hWA⟩ : ∃ WA, WA = World.alloc W0 (.cells #[.bool false, .int .i64 0, .int .i64 0, .int .i64 0] 46) := ⟨_, rfl⟩
        have hSA : WA.cell? ⟨P5, 1, none⟩ = some (.int .i64 xg) := by rw [hWA]; exact (kb_alloc 0 _ _).cell hS0
        have HKA : Hid (Kb 0 w8 WA ∧ WA.heap[W0.heap.size]? = some (.cells #[.bool false, .int .i64 0, .int .i64 0, .int .i64 0] 46 (0, 0))) := (⟨by rw [hWA]; exact (show Kb 0 w8 W0 from HKD).trans (kb_alloc 0 _ _), by rw [hWA]; exact alloc_new _ _ _⟩ : _ ∧ _)
        rw [← hWA]
        clear hWA
        refine hK.out _ _ (fun _ => hSA) ?_
        clear hK K
        try simp only [Act.put, List.setIfInBounds_toArray, List.set_cons_zero, List.set_cons_succ]
        refine AnyL.oneAt 10 rfl (by kernel_rfl) rfl ?_
        intro K hK
        have hba := (show _ ∧ _ from HKA).2
        have g0 : WA.cell? ⟨W0.heap.size, 0, none⟩ = some (.bool false) := cell_of hba rfl
        have g1 : WA.cell? ⟨W0.heap.size, 1, none⟩ = some (.int .i64 0) := cell_of hba rfl
        have g2 : WA.cell? ⟨W0.heap.size, 2, none⟩ = some (.int .i64 0) := cell_of hba rfl
        have g3 : WA.cell? ⟨W0.heap.size, 3, none⟩ = some (.int .i64 0) := cell_of hba rfl
        have gf : ∀ j, WA.frozen? ⟨W0.heap.size, j, none⟩ = false := fun j => frozen_of hba
        obtain ⟨WB, hWB, bB, zB⟩ := four_set (.bool true) (.int .i64 (xg + 1)) (.int .i64 (n : Int)) (.int .i64 SM) hba
        have HWB : Hid (WB = _) := hWB
        have HB : Hid (Kb 0 w8 WB ∧ WB.heap[W0.heap.size]? = some (.cells #[.bool true, .int .i64 (xg + 1), .int .i64 (n : Int), .int .i64 SM] 46 (0, 0))) := (⟨zB.kb (show _ ∧ _ from HKA).1 (show Kb 0 w8 W0 from HKD).size, bB⟩ : _ ∧ _)
        clear hba hWB bB zB HKA
        go_simp
        rw [← (show WB = _ from HWB)]
        clear HWB g0 g1 g2 g3 gf
        refine hK.out _ _ (fun h => absurd rfl h) ?_
        clear hK K
        try simp only [Act.put, List.setIfInBounds_toArray, List.set_cons_zero, List.set_cons_succ]
        refine AnyL.done (by kernel_rfl) ?_
        obtain ⟨kB, bB⟩ := (show _ ∧ _ from HB)
        have q0 : WB.cell? ⟨W0.heap.size, 0, none⟩ = some (.bool true) := cell_of bB rfl
        have q1 : WB.cell? ⟨W0.heap.size, 1, none⟩ = some (.int .i64 (xg + 1)) := cell_of bB rfl
        have q2 : WB.cell? ⟨W0.heap.size, 2, none⟩ = some (.int .i64 (n : Int)) := cell_of bB rfl
        have q3 : WB.cell? ⟨W0.heap.size, 3, none⟩ = some (.int .i64 SM) := cell_of bB rfl
        have HL := sp_block (ok := true) (g := xg + 1) (l := (n : Int)) (s := SM) WB
        clear kB bB
        go_wp2_with fail
        refine HL.mono ?_
        rintro e wb ⟨vb2, rfl, rb, kb⟩
        obtain ⟨pb2, cb2, rfl, hrb⟩ := id rb
        obtain ⟨hX, hkb⟩ := (show _ ∧ _ from HXX)
        obtain ⟨kB, bB⟩ := (show _ ∧ _ from HB)
        have k8b := kB.trans kb
        have hBr : B0 ≤ w8.heap.size := by rw [show B0 = _ from HB0]; exact hkb.size
        have hik := (show i = _ from HIK)
        have eF : F (i + 1) = ⟨false, 1, 64, hdb (xg + 1) (n : Int) SM⟩ := by
          rw [show F = _ from HF, hik, (show _ ∧ _ ∧ _ from HSM).2.2]
          exact opF_h
        have hox : RdB w8.heap.size wb (.slice pb2 64 cb2) (F (i + 1)).c (F (i + 1)).A none := by
          rw [eF]
          refine ⟨_, _, rfl, fun _ => ?_⟩
          obtain ⟨a, r1, r2, r3, r4⟩ := hrb (by omega)
          exact ⟨a, r1, r2, by have := kB.size; omega, by have := lt_of_cell' (r4 0 (by omega)); rw [add_block] at this; exact this, fun q => (by cases q), r4⟩
        obtain ⟨PC, hPC⟩ : ∃ PC, PC = cel 3 F V1 (i + 1) := ⟨_, rfl⟩
        have HOW : Hid (wb.ownsRow B0 96 3 (.slice (some ⟨g', 0, none⟩) (i + 1) cap') (i + 1) PC ∧ B0 ≤ wb.heap.size) := (⟨by rw [hPC]; exact (hX.keep k8b.size (fun q _ h2 => k8b.block q (Nat.zero_le _) h2)).ro, Nat.le_trans hBr k8b.size⟩ : _ ∧ _)
        have HPU : Hid (∀ (ob : Obj) (W8 : World) (g cap : Nat), W8.ownsRow B0 96 3 (.slice (some ⟨g, 0, none⟩) (i + 1 + 1) cap) (i + 1 + 1) (PC ++ [.bool false, .int .i64 1, .slice pb2 64 cb2]) → (wb.alloc ob).grownBy W8 (Value.slice (some ⟨g', 0, none⟩) (i + 1) cap').ownBlock → ((Value.slice (some ⟨g', 0, none⟩) (i + 1) cap').ownBlock = some g ∨ g = wb.heap.size + 1) → ∃ V', BRd B0 W8 (.slice (some ⟨g, 0, none⟩) (i + 1 + 1) cap) (i + 1 + 1) F V' ∧ Kb 0 w3 W8) := (fun ob W8 g cap h8 g8 ha => by
          have st := hX.step hBr k8b hox (ob := ob) (by rw [← hPC, eF]; exact h8) g8 ha
          have k36 := hkb.trans k8b
          have hb0 := (show B0 = _ from HB0)
          have z36 := k36.size
          refine ⟨_, st, ⟨by rw [g8.os]; exact k36.os, by rw [g8.output]; exact k36.output, by have := g8.size; rw [World.size_alloc] at this; omega, fun q h1 h2 => ?_⟩⟩
          exact ((g8.block q (by rw [World.size_alloc]; omega) (fun e => by have := (hX.ro.lt q e.symm).1; omega)).trans ((kb_alloc 0 _ ob).block q (Nat.zero_le _) (by omega))).trans (k36.block q h1 h2) : ∀ (ob : Obj) (W8 : World) (g cap : Nat), _)
        clear HL rb kb hrb hX hkb kB bB k8b hBr hik eF hox hPC q0 q1 q2 q3 HB HXX
        go_upto_region 20 with (refine wpList_append_lies _ (by rfl) (.tmp 76) (.tmp 81) 56 (by rfl) B0 96 i1 (.agg #[.bool false, .int .i64 0, .slice none 0 0]) 3 40 Try.underlying56 HI1 hz0 hz1 hz2 rfl (by decide) (.slice (some ⟨g', 0, none⟩) (i + 1) cap') (i + 1) PC (by rfl) ((show _ ∧ _ from HOW).1.alloc _) ⟨wb.heap.size, 0, none⟩ 1 1 [.bool false, .int .i64 1, .slice pb2 64 cb2] (by rfl) (by rfl) (qr_cells wb #[.bool false, .int .i64 1, .slice pb2 64 cb2] 96 [.bool false, .int .i64 1, .slice pb2 64 cb2] rfl) (by intro y hy; simp only [List.mem_cons, List.not_mem_nil, or_false] at hy; rcases hy with rfl | rfl | rfl <;> rfl) (by decide) (by unfold maxLen; omega) (by omega) (by rw [World.size_alloc]; have := (show _ ∧ _ from HOW).2; omega) (wb.heap.size + 1) (World.size_alloc _ _) ?_; intro g'b cap'b w8b hown1 hgrow1 hat hlt; have HN := (show ∀ (ob : Obj) (W8 : World) (g cap : Nat), _ from HPU) _ w8b g'b cap'b hown1 hgrow1 hat; clear hown1 hgrow1 hat hlt)
        obtain ⟨V2, hX, hkb⟩ := HN
        have hBr : B0 ≤ w8b.heap.size := by rw [show B0 = _ from HB0]; exact hkb.size
        have hik := (show i = _ from HIK)
        have eF : F (i + 1 + 1) = ⟨true, 0, 0, fun _ => 0⟩ := by rw [show F = _ from HF, hik]; exact opF_s (by omega) (by omega)
        have hox : RdB w8b.heap.size w8b (.slice none 0 0) (F (i + 1 + 1)).c (F (i + 1 + 1)).A none := by rw [eF]; exact ⟨_, _, rfl, fun h => absurd h (Nat.lt_irrefl 0)⟩
        have kr := Kb.refl 0 w8b
        clear HOW HPU PC
        obtain ⟨PC, hPC⟩ : ∃ PC, PC = cel 3 F V2 (i + 1 + 1) := ⟨_, rfl⟩
        have HOW : Hid (w8b.ownsRow B0 96 3 (.slice (some ⟨g'b, 0, none⟩) (i + 1 + 1) cap'b) (i + 1 + 1) PC ∧ B0 ≤ w8b.heap.size) := (⟨by rw [hPC]; exact (hX.keep kr.size (fun q _ h2 => kr.block q (Nat.zero_le _) h2)).ro, Nat.le_trans hBr kr.size⟩ : _ ∧ _)
        have HPU : Hid (∀ (ob : Obj) (W8 : World) (g cap : Nat), W8.ownsRow B0 96 3 (.slice (some ⟨g, 0, none⟩) (i + 1 + 1 + 1) cap) (i + 1 + 1 + 1) (PC ++ [.bool true, .int .i64 0, .slice none 0 0]) → (w8b.alloc ob).grownBy W8 (Value.slice (some ⟨g'b, 0, none⟩) (i + 1 + 1) cap'b).ownBlock → ((Value.slice (some ⟨g'b, 0, none⟩) (i + 1 + 1) cap'b).ownBlock = some g ∨ g = w8b.heap.size + 1) → ∃ V', BRd B0 W8 (.slice (some ⟨g, 0, none⟩) (i + 1 + 1 + 1) cap) (i + 1 + 1 + 1) F V' ∧ Kb 0 w3 W8) := (fun ob W8 g cap h8 g8 ha => by
          have st := hX.step hBr kr hox (ob := ob) (by rw [← hPC, eF]; exact h8) g8 ha
          have k36 := hkb.trans kr
          have hb0 := (show B0 = _ from HB0)
          have z36 := k36.size
          refine ⟨_, st, ⟨by rw [g8.os]; exact k36.os, by rw [g8.output]; exact k36.output, by have := g8.size; rw [World.size_alloc] at this; omega, fun q h1 h2 => ?_⟩⟩
          exact ((g8.block q (by rw [World.size_alloc]; omega) (fun e => by have := (hX.ro.lt q e.symm).1; omega)).trans ((kb_alloc 0 _ ob).block q (Nat.zero_le _) (by omega))).trans (k36.block q h1 h2) : ∀ (ob : Obj) (W8 : World) (g cap : Nat), _)
        clear hX hkb hBr hik eF hox hPC kr
        go_wp2_with (refine wpList_append_lies _ (by rfl) (.tmp 83) (.tmp 85) 56 (by rfl) B0 96 i1 (.agg #[.bool false, .int .i64 0, .slice none 0 0]) 3 40 Try.underlying56 HI1 hz0 hz1 hz2 rfl (by decide) (.slice (some ⟨g'b, 0, none⟩) (i + 1 + 1) cap'b) (i + 1 + 1) PC (by rfl) ((show _ ∧ _ from HOW).1.alloc _) ⟨w8b.heap.size, 0, none⟩ 1 1 [.bool true, .int .i64 0, .slice none 0 0] (by rfl) (by rfl) (qr_cells w8b #[.bool true, .int .i64 0, .slice none 0 0] 96 [.bool true, .int .i64 0, .slice none 0 0] rfl) (by intro y hy; simp only [List.mem_cons, List.not_mem_nil, or_false] at hy; rcases hy with rfl | rfl | rfl <;> rfl) (by decide) (by unfold maxLen; omega) (by omega) (by rw [World.size_alloc]; have := (show _ ∧ _ from HOW).2; omega) (w8b.heap.size + 1) (World.size_alloc _ _) ?_; intro g'c cap'c w8c hown1 hgrow1 hat hlt; have HN := (show ∀ (ob : Obj) (W8 : World) (g cap : Nat), _ from HPU) _ w8c g'c cap'c hown1 hgrow1 hat; clear hown1 hgrow1 hat hlt)
        go_ret
        obtain ⟨V3, hX, hkb⟩ := HN
        refine ⟨_, rfl, ?_, (show _ ∧ _ from HK3).1.trans hkb⟩
        have := hX.rowE
        rw [show opn n + 3 = i + 1 + 1 + 1 by rw [show i = _ from HIK]]
        exact this
      · intro K hK
        go_simp
        obtain ⟨WA, hWA⟩ : ∃ WA, WA = World.alloc W0 (.cells #[.bool false, .int .i64 0, .int .i64 0, .int .i64 0] 46) := ⟨_, rfl⟩
        have hSA : WA.cell? ⟨P5, 1, none⟩ = some (.int .i64 xg) := by rw [hWA]; exact (kb_alloc 0 _ _).cell hS0
        have HKA : Hid (Kb 0 w8 WA ∧ WA.heap[W0.heap.size]? = some (.cells #[.bool false, .int .i64 0, .int .i64 0, .int .i64 0] 46 (0, 0))) := (⟨by rw [hWA]; exact (show Kb 0 w8 W0 from HKD).trans (kb_alloc 0 _ _), by rw [hWA]; exact alloc_new _ _ _⟩ : _ ∧ _)
        rw [← hWA]
        clear hWA
        refine hK.out _ _ (fun _ => hSA) ?_
        clear hK K
        try simp only [Act.put, List.setIfInBounds_toArray, List.set_cons_zero, List.set_cons_succ]
        refine AnyL.oneAt 6 rfl (by kernel_rfl) rfl ?_
        intro K hK
        go_simp
        refine ((show _ ∧ _ from HSM).1 WA ((show ∀ W, Kb 0 w8 W → _ from HKK9) WA (show _ ∧ _ from HKA).1)).mono ?_
        rintro e x1 ⟨rfl, hx1⟩
        rw [hx1]
        clear hx1
        refine hK.out _ _ (fun _ => hSA) ?_
        clear hK K
        try simp only [Act.put, List.setIfInBounds_toArray, List.set_cons_zero, List.set_cons_succ]
        refine AnyL.takeAt 7 (.int .i64 SM) rfl (by kernel_rfl) (by kernel_rfl) (by kernel_rfl) (by kernel_rfl) (fun _ _ _ h => h) rfl hSA (by intro W hW; go_simp; rw [show IntKind.i64.wrap (smz A n) = SM from (show _ ∧ _ ∧ _ from HSM).2.1]) ?_
        try simp only [Act.put, List.setIfInBounds_toArray, List.set_cons_zero, List.set_cons_succ]
        refine AnyL.takeAt 8 (.agg #[.bool true, .int .i64 (xg + 1), .int .i64 (n : Int), .int .i64 SM]) rfl (by kernel_rfl) (by kernel_rfl) (by kernel_rfl) (by kernel_rfl) (fun _ _ _ h => h) rfl hSA (by intro W hW; go_simp) ?_
        try simp only [Act.put, List.setIfInBounds_toArray, List.set_cons_zero, List.set_cons_succ]
        refine AnyL.oneAt 10 rfl (by kernel_rfl) rfl ?_
        intro K hK
        have hba := (show _ ∧ _ from HKA).2
        have g0 : WA.cell? ⟨W0.heap.size, 0, none⟩ = some (.bool false) := cell_of hba rfl
        have g1 : WA.cell? ⟨W0.heap.size, 1, none⟩ = some (.int .i64 0) := cell_of hba rfl
        have g2 : WA.cell? ⟨W0.heap.size, 2, none⟩ = some (.int .i64 0) := cell_of hba rfl
        have g3 : WA.cell? ⟨W0.heap.size, 3, none⟩ = some (.int .i64 0) := cell_of hba rfl
        have gf : ∀ j, WA.frozen? ⟨W0.heap.size, j, none⟩ = false := fun j => frozen_of hba
        obtain ⟨WB, hWB, bB, zB⟩ := four_set (.bool true) (.int .i64 (xg + 1)) (.int .i64 (n : Int)) (.int .i64 SM) hba
        have HWB : Hid (WB = _) := hWB
        have HB : Hid (Kb 0 w8 WB ∧ WB.heap[W0.heap.size]? = some (.cells #[.bool true, .int .i64 (xg + 1), .int .i64 (n : Int), .int .i64 SM] 46 (0, 0))) := (⟨zB.kb (show _ ∧ _ from HKA).1 (show Kb 0 w8 W0 from HKD).size, bB⟩ : _ ∧ _)
        clear hba hWB bB zB HKA
        go_simp
        rw [← (show WB = _ from HWB)]
        clear HWB g0 g1 g2 g3 gf
        refine hK.out _ _ (fun h => absurd rfl h) ?_
        clear hK K
        try simp only [Act.put, List.setIfInBounds_toArray, List.set_cons_zero, List.set_cons_succ]
        refine AnyL.done (by kernel_rfl) ?_
        obtain ⟨kB, bB⟩ := (show _ ∧ _ from HB)
        have q0 : WB.cell? ⟨W0.heap.size, 0, none⟩ = some (.bool true) := cell_of bB rfl
        have q1 : WB.cell? ⟨W0.heap.size, 1, none⟩ = some (.int .i64 (xg + 1)) := cell_of bB rfl
        have q2 : WB.cell? ⟨W0.heap.size, 2, none⟩ = some (.int .i64 (n : Int)) := cell_of bB rfl
        have q3 : WB.cell? ⟨W0.heap.size, 3, none⟩ = some (.int .i64 SM) := cell_of bB rfl
        have HL := sp_block (ok := true) (g := xg + 1) (l := (n : Int)) (s := SM) WB
        clear kB bB
        go_wp2_with fail
        refine HL.mono ?_
        rintro e wb ⟨vb2, rfl, rb, kb⟩
        obtain ⟨pb2, cb2, rfl, hrb⟩ := id rb
        obtain ⟨hX, hkb⟩ := (show _ ∧ _ from HXX)
        obtain ⟨kB, bB⟩ := (show _ ∧ _ from HB)
        have k8b := kB.trans kb
        have hBr : B0 ≤ w8.heap.size := by rw [show B0 = _ from HB0]; exact hkb.size
        have hik := (show i = _ from HIK)
        have eF : F (i + 1) = ⟨false, 1, 64, hdb (xg + 1) (n : Int) SM⟩ := by
          rw [show F = _ from HF, hik, (show _ ∧ _ ∧ _ from HSM).2.2]
          exact opF_h
        have hox : RdB w8.heap.size wb (.slice pb2 64 cb2) (F (i + 1)).c (F (i + 1)).A none := by
          rw [eF]
          refine ⟨_, _, rfl, fun _ => ?_⟩
          obtain ⟨a, r1, r2, r3, r4⟩ := hrb (by omega)
          exact ⟨a, r1, r2, by have := kB.size; omega, by have := lt_of_cell' (r4 0 (by omega)); rw [add_block] at this; exact this, fun q => (by cases q), r4⟩
        obtain ⟨PC, hPC⟩ : ∃ PC, PC = cel 3 F V1 (i + 1) := ⟨_, rfl⟩
        have HOW : Hid (wb.ownsRow B0 96 3 (.slice (some ⟨g', 0, none⟩) (i + 1) cap') (i + 1) PC ∧ B0 ≤ wb.heap.size) := (⟨by rw [hPC]; exact (hX.keep k8b.size (fun q _ h2 => k8b.block q (Nat.zero_le _) h2)).ro, Nat.le_trans hBr k8b.size⟩ : _ ∧ _)
        have HPU : Hid (∀ (ob : Obj) (W8 : World) (g cap : Nat), W8.ownsRow B0 96 3 (.slice (some ⟨g, 0, none⟩) (i + 1 + 1) cap) (i + 1 + 1) (PC ++ [.bool false, .int .i64 1, .slice pb2 64 cb2]) → (wb.alloc ob).grownBy W8 (Value.slice (some ⟨g', 0, none⟩) (i + 1) cap').ownBlock → ((Value.slice (some ⟨g', 0, none⟩) (i + 1) cap').ownBlock = some g ∨ g = wb.heap.size + 1) → ∃ V', BRd B0 W8 (.slice (some ⟨g, 0, none⟩) (i + 1 + 1) cap) (i + 1 + 1) F V' ∧ Kb 0 w3 W8) := (fun ob W8 g cap h8 g8 ha => by
          have st := hX.step hBr k8b hox (ob := ob) (by rw [← hPC, eF]; exact h8) g8 ha
          have k36 := hkb.trans k8b
          have hb0 := (show B0 = _ from HB0)
          have z36 := k36.size
          refine ⟨_, st, ⟨by rw [g8.os]; exact k36.os, by rw [g8.output]; exact k36.output, by have := g8.size; rw [World.size_alloc] at this; omega, fun q h1 h2 => ?_⟩⟩
          exact ((g8.block q (by rw [World.size_alloc]; omega) (fun e => by have := (hX.ro.lt q e.symm).1; omega)).trans ((kb_alloc 0 _ ob).block q (Nat.zero_le _) (by omega))).trans (k36.block q h1 h2) : ∀ (ob : Obj) (W8 : World) (g cap : Nat), _)
        clear HL rb kb hrb hX hkb kB bB k8b hBr hik eF hox hPC q0 q1 q2 q3 HB HXX
        go_upto_region 20 with (refine wpList_append_lies _ (by rfl) (.tmp 76) (.tmp 81) 56 (by rfl) B0 96 i1 (.agg #[.bool false, .int .i64 0, .slice none 0 0]) 3 40 Try.underlying56 HI1 hz0 hz1 hz2 rfl (by decide) (.slice (some ⟨g', 0, none⟩) (i + 1) cap') (i + 1) PC (by rfl) ((show _ ∧ _ from HOW).1.alloc _) ⟨wb.heap.size, 0, none⟩ 1 1 [.bool false, .int .i64 1, .slice pb2 64 cb2] (by rfl) (by rfl) (qr_cells wb #[.bool false, .int .i64 1, .slice pb2 64 cb2] 96 [.bool false, .int .i64 1, .slice pb2 64 cb2] rfl) (by intro y hy; simp only [List.mem_cons, List.not_mem_nil, or_false] at hy; rcases hy with rfl | rfl | rfl <;> rfl) (by decide) (by unfold maxLen; omega) (by omega) (by rw [World.size_alloc]; have := (show _ ∧ _ from HOW).2; omega) (wb.heap.size + 1) (World.size_alloc _ _) ?_; intro g'b cap'b w8b hown1 hgrow1 hat hlt; have HN := (show ∀ (ob : Obj) (W8 : World) (g cap : Nat), _ from HPU) _ w8b g'b cap'b hown1 hgrow1 hat; clear hown1 hgrow1 hat hlt)
        obtain ⟨V2, hX, hkb⟩ := HN
        have hBr : B0 ≤ w8b.heap.size := by rw [show B0 = _ from HB0]; exact hkb.size
        have hik := (show i = _ from HIK)
        have eF : F (i + 1 + 1) = ⟨true, 0, 0, fun _ => 0⟩ := by rw [show F = _ from HF, hik]; exact opF_s (by omega) (by omega)
        have hox : RdB w8b.heap.size w8b (.slice none 0 0) (F (i + 1 + 1)).c (F (i + 1 + 1)).A none := by rw [eF]; exact ⟨_, _, rfl, fun h => absurd h (Nat.lt_irrefl 0)⟩
        have kr := Kb.refl 0 w8b
        clear HOW HPU PC
        obtain ⟨PC, hPC⟩ : ∃ PC, PC = cel 3 F V2 (i + 1 + 1) := ⟨_, rfl⟩
        have HOW : Hid (w8b.ownsRow B0 96 3 (.slice (some ⟨g'b, 0, none⟩) (i + 1 + 1) cap'b) (i + 1 + 1) PC ∧ B0 ≤ w8b.heap.size) := (⟨by rw [hPC]; exact (hX.keep kr.size (fun q _ h2 => kr.block q (Nat.zero_le _) h2)).ro, Nat.le_trans hBr kr.size⟩ : _ ∧ _)
        have HPU : Hid (∀ (ob : Obj) (W8 : World) (g cap : Nat), W8.ownsRow B0 96 3 (.slice (some ⟨g, 0, none⟩) (i + 1 + 1 + 1) cap) (i + 1 + 1 + 1) (PC ++ [.bool true, .int .i64 0, .slice none 0 0]) → (w8b.alloc ob).grownBy W8 (Value.slice (some ⟨g'b, 0, none⟩) (i + 1 + 1) cap'b).ownBlock → ((Value.slice (some ⟨g'b, 0, none⟩) (i + 1 + 1) cap'b).ownBlock = some g ∨ g = w8b.heap.size + 1) → ∃ V', BRd B0 W8 (.slice (some ⟨g, 0, none⟩) (i + 1 + 1 + 1) cap) (i + 1 + 1 + 1) F V' ∧ Kb 0 w3 W8) := (fun ob W8 g cap h8 g8 ha => by
          have st := hX.step hBr kr hox (ob := ob) (by rw [← hPC, eF]; exact h8) g8 ha
          have k36 := hkb.trans kr
          have hb0 := (show B0 = _ from HB0)
          have z36 := k36.size
          refine ⟨_, st, ⟨by rw [g8.os]; exact k36.os, by rw [g8.output]; exact k36.output, by have := g8.size; rw [World.size_alloc] at this; omega, fun q h1 h2 => ?_⟩⟩
          exact ((g8.block q (by rw [World.size_alloc]; omega) (fun e => by have := (hX.ro.lt q e.symm).1; omega)).trans ((kb_alloc 0 _ ob).block q (Nat.zero_le _) (by omega))).trans (k36.block q h1 h2) : ∀ (ob : Obj) (W8 : World) (g cap : Nat), _)
        clear hX hkb hBr hik eF hox hPC kr
        go_wp2_with (refine wpList_append_lies _ (by rfl) (.tmp 83) (.tmp 85) 56 (by rfl) B0 96 i1 (.agg #[.bool false, .int .i64 0, .slice none 0 0]) 3 40 Try.underlying56 HI1 hz0 hz1 hz2 rfl (by decide) (.slice (some ⟨g'b, 0, none⟩) (i + 1 + 1) cap'b) (i + 1 + 1) PC (by rfl) ((show _ ∧ _ from HOW).1.alloc _) ⟨w8b.heap.size, 0, none⟩ 1 1 [.bool true, .int .i64 0, .slice none 0 0] (by rfl) (by rfl) (qr_cells w8b #[.bool true, .int .i64 0, .slice none 0 0] 96 [.bool true, .int .i64 0, .slice none 0 0] rfl) (by intro y hy; simp only [List.mem_cons, List.not_mem_nil, or_false] at hy; rcases hy with rfl | rfl | rfl <;> rfl) (by decide) (by unfold maxLen; omega) (by omega) (by rw [World.size_alloc]; have := (show _ ∧ _ from HOW).2; omega) (w8b.heap.size + 1) (World.size_alloc _ _) ?_; intro g'c cap'c w8c hown1 hgrow1 hat hlt; have HN := (show ∀ (ob : Obj) (W8 : World) (g cap : Nat), _ from HPU) _ w8c g'c cap'c hown1 hgrow1 hat; clear hown1 hgrow1 hat hlt)
        go_ret
        obtain ⟨V3, hX, hkb⟩ := HN
        refine ⟨_, rfl, ?_, (show _ ∧ _ from HK3).1.trans hkb⟩
        have := hX.rowE
        rw [show opn n + 3 = i + 1 + 1 + 1 by rw [show i = _ from HIK]]
        exact this
    obtain ⟨wo, rfl⟩ : ∃ wo, wo = wr := ⟨_, rfl⟩
    have hiI : (a9 : Int) < (n : Int) := by omega
    have hi2 : i < opn n := by unfold opn; omega
    have hi128 : (a9 : Int) < 8192 := by omega
    have hq9 : (a9 : Int) / 64 = (i : Int) := by omega
    have hq8 : Int.tdiv (a9 : Int) 64 = (i : Int) := by rw [h9]; rw [Int.natCast_mul]; exact Int.mul_tdiv_cancel _ (by decide)
    have H9 : Hid (a9 = i * 64) := h9
    have hmk : ∀ W : World, _ := fun W => run_make (P := Try.prog) W 26 5 Try.t5 (.int .u8 0) Try.underlying26 (by kernel_rfl) (by kernel_rfl) .i64 .i64 64 64 (by omega) (Int.le_refl _) (by decide) (by omega)
    have hmk2 : ∀ W : World, _ := fun W => (hmk W).trans (show _ = Result.ok (.slice (some ⟨W.heap.size, 0, none⟩) 64 64) (W.alloc (.cells M64 5)) from rfl)
    clear hmk
    obtain ⟨W5, hW5⟩ : ∃ W5, W5 = wo.alloc (.cells M64 5) := ⟨_, rfl⟩
    have k5 : Kb 0 wo W5 := by rw [hW5]; exact kb_alloc _ _ _
    have z5 : W5.heap.size = wo.heap.size + 1 := by rw [hW5]; exact World.size_alloc _ _
    have o5 : OwnR W5 (.slice (some ⟨wo.heap.size, 0, none⟩) 64 64) wo.heap.size 64 (ub (fun j => if j < 0 then A (i * 64 + j) else 0)) := own_made wo W5 hW5
    have HY0 : Hid (OwnR W5 (.slice (some ⟨wo.heap.size, 0, none⟩) 64 64) wo.heap.size 64 (ub (fun j => if j < 0 then A (i * 64 + j) else 0)) ∧ Kb 0 wo W5) := (⟨o5, k5⟩ : _ ∧ _)
    have HXX : Hid (BRd B0 wo (.slice pl i cl) i F V ∧ Kb 0 w3 wo ∧ B0 ≤ wo.heap.size) := (⟨hX, hkb, hBr⟩ : _ ∧ _)
    have HRW : Hid (∀ W, Kb 0 wo W → ∃ a : Addr, pa = some a ∧ n ≤ ca ∧ ∀ j, j < n → W.cell? (a.add j) = some (.int .u8 (A j))) := (fun W k => by
      obtain ⟨pa', ca', e, h2⟩ := (show _ ∧ _ from HIM).1 W (((show _ ∧ _ from HK3).1.trans hkb).trans k)
      injection e with e1 e2 e3
      obtain ⟨a, q1, q2, q3⟩ := h2 hn0
      exact ⟨a, by rw [e1]; exact q1, by omega, q3⟩ : ∀ W, _)
    obtain ⟨a, rfl, hca, -⟩ := (show ∀ W, Kb 0 wo W → _ from HRW) wo (Kb.refl _ _)
    have HW5 : Hid (W5 = wo.alloc (.cells M64 5)) := hW5
    obtain ⟨RB, hRB⟩ : ∃ RB, RB = wo.heap.size := ⟨_, rfl⟩
    have HRB : Hid (RB = wo.heap.size) := hRB
    rw [← hRB] at HY0
    clear hX hkb hBr k5 z5 o5 hW5 hil hRB h9 hi
    go_upto_region 12 with fail
    rw [← (show W5 = _ from HW5), ← (show RB = _ from HRB)]
    clear HW5 hmk2
    go_wp2_with fail
    go_loopw [10] (fun s10 wq => ∃ t b9 : Nat, s10 = .int .i64 (b9 : Int) ∧ t ≤ 64 ∧ Hid (b9 = a9 + t ∧ a9 + t ≤ n ∧ OwnR wq (.slice (some ⟨RB, 0, none⟩) 64 64) RB 64 (ub (fun j => if j < t then A (i * 64 + j) else 0)) ∧ Kb 0 wo wq)) (fun s10 _ => 16384 - (intOf s10).toNat)
    case atStart => exact ⟨0, a9, rfl, Nat.zero_le _, ⟨rfl, by have := (show a9 = _ from H9); omega, HY0⟩⟩
    case round =>
      clear HY0
      obtain ⟨t, b9, rfl, htl, HY⟩ := hrel
      obtain ⟨hb9, htn, oq, kq⟩ := (show _ ∧ _ ∧ _ ∧ _ from HY)
      have h9 := (show a9 = _ from H9)
      clear HY
      by_cases hlt : i * 64 + t < n ∧ t < 64
      case neg =>
        have oq2 : OwnR wr (.slice (some ⟨RB, 0, none⟩) 64 64) RB 64 (ub (pcA A n i)) := ⟨oq.sl, fun j hj => by
          rw [oq.cell j hj]
          dsimp only [ub, pcA]
          by_cases q : j < t
          · rw [if_pos q, if_pos (by omega)]
          · rw [if_neg q, if_neg (by omega)], oq.fz⟩
        obtain ⟨hX, hkb, hBr⟩ := (show _ ∧ _ ∧ _ from HXX)
        have eF : F i = ⟨false, ((130 + i : Nat) : Int), 64, pcA A n i⟩ := by rw [show F = _ from HF]; exact opF_p hi2
        have hRB := (show RB = _ from HRB)
        have hrbl : RB < wr.heap.size := lt_of_cell' (oq.cell 0 (by omega))
        have hox : RdB wo.heap.size wr (.slice (some ⟨RB, 0, none⟩) 64 64) (F i).c (F i).A none := by
          rw [eF]
          exact ⟨_, _, rfl, fun _ => ⟨_, rfl, Nat.le_refl _, by show _ ≤ RB; omega, hrbl, fun q => (by cases q), fun j hj => by rw [addr0]; exact oq2.cell j hj⟩⟩
        obtain ⟨PC, hPC⟩ : ∃ PC, PC = cel 3 F V (i) := ⟨_, rfl⟩
        have HOW : Hid (wr.ownsRow B0 96 3 (.slice pl (i) cl) (i) PC ∧ B0 ≤ wr.heap.size) := (⟨by rw [hPC]; exact (hX.keep kq.size (fun q _ h2 => kq.block q (Nat.zero_le _) h2)).ro, Nat.le_trans hBr kq.size⟩ : _ ∧ _)
        have HPU : Hid (∀ (ob : Obj) (W8 : World) (g cap : Nat), W8.ownsRow B0 96 3 (.slice (some ⟨g, 0, none⟩) (i + 1) cap) (i + 1) (PC ++ [.bool false, .int .i64 ((130 + i : Nat) : Int), .slice (some ⟨RB, 0, none⟩) 64 64]) → (wr.alloc ob).grownBy W8 (Value.slice pl (i) cl).ownBlock → ((Value.slice pl (i) cl).ownBlock = some g ∨ g = wr.heap.size + 1) → ∃ V', BRd B0 W8 (.slice (some ⟨g, 0, none⟩) (i + 1) cap) (i + 1) F V' ∧ Kb 0 w3 W8) := (fun ob W8 g cap h8 g8 ha => by
          have st := hX.step hBr kq hox (ob := ob) (by rw [← hPC, eF]; exact h8) g8 ha
          have k36 := hkb.trans kq
          have hb0 := (show B0 = _ from HB0)
          have z36 := k36.size
          refine ⟨_, st, ⟨by rw [g8.os]; exact k36.os, by rw [g8.output]; exact k36.output, by have := g8.size; rw [World.size_alloc] at this; omega, fun q h1 h2 => ?_⟩⟩
          exact ((g8.block q (by rw [World.size_alloc]; omega) (fun e => by have := (hX.ro.lt q e.symm).1; omega)).trans ((kb_alloc 0 _ ob).block q (Nat.zero_le _) (by omega))).trans (k36.block q h1 h2) : ∀ (ob : Obj) (W8 : World) (g cap : Nat), _)
        have hexit : ¬ (b9 : Int) < (n : Int) ∨ ((b9 : Int) < (n : Int) ∧ ¬ (b9 : Int) < (a9 : Int) + 64) := by omega
        clear hX hkb hBr oq oq2 kq eF hRB hrbl hox hPC HXX HRB HRW hb9 htn h9 hlt htl
        rcases hexit with hx | hx
        · skip
          go_wp2_with fail
          refine (sp_first1 wr).mono ?_
          rintro e wq2 ⟨rfl, hwq⟩
          rw [hwq]
          clear hwq
          go_wp2_with (refine wpList_append_lies _ (by rfl) (.tmp 53) (.tmp 61) 56 (by rfl) B0 96 i1 (.agg #[.bool false, .int .i64 0, .slice none 0 0]) 3 40 Try.underlying56 HI1 hz0 hz1 hz2 rfl (by decide) (.slice pl (i) cl) (i) PC (by rfl) ((show _ ∧ _ from HOW).1.alloc _) ⟨wr.heap.size, 0, none⟩ 1 1 [.bool false, .int .i64 ((130 + i : Nat) : Int), .slice (some ⟨RB, 0, none⟩) 64 64] (by rfl) (by rfl) (qr_cells wr #[.bool false, .int .i64 ((130 + i : Nat) : Int), .slice (some ⟨RB, 0, none⟩) 64 64] 96 [.bool false, .int .i64 ((130 + i : Nat) : Int), .slice (some ⟨RB, 0, none⟩) 64 64] rfl) (by intro y hy; simp only [List.mem_cons, List.not_mem_nil, or_false] at hy; rcases hy with rfl | rfl | rfl <;> rfl) (by decide) (by unfold maxLen; omega) (by omega) (by rw [World.size_alloc]; have := (show _ ∧ _ from HOW).2; omega) (wr.heap.size + 1) (World.size_alloc _ _) ?_; intro g' cap' w8 hown1 hgrow1 hat hlt; have HN := (show ∀ (ob : Obj) (W8 : World) (g cap : Nat), _ from HPU) _ w8 g' cap' hown1 hgrow1 hat; clear hown1 hgrow1 hat hlt)
          go_roundw
          case rel => obtain ⟨V', hb, hk⟩ := HN; exact ⟨i + 1, a9 + 64, _, V', rfl, by go_num, by omega, ⟨hb, hk, by have := (show a9 = _ from H9); omega⟩⟩
          case measure => simp [intOf]; omega
        · obtain ⟨hx1, hx2⟩ := hx
          go_wp2_with fail
          refine (sp_first1 wr).mono ?_
          rintro e wq2 ⟨rfl, hwq⟩
          rw [hwq]
          clear hwq
          go_wp2_with (refine wpList_append_lies _ (by rfl) (.tmp 53) (.tmp 61) 56 (by rfl) B0 96 i1 (.agg #[.bool false, .int .i64 0, .slice none 0 0]) 3 40 Try.underlying56 HI1 hz0 hz1 hz2 rfl (by decide) (.slice pl (i) cl) (i) PC (by rfl) ((show _ ∧ _ from HOW).1.alloc _) ⟨wr.heap.size, 0, none⟩ 1 1 [.bool false, .int .i64 ((130 + i : Nat) : Int), .slice (some ⟨RB, 0, none⟩) 64 64] (by rfl) (by rfl) (qr_cells wr #[.bool false, .int .i64 ((130 + i : Nat) : Int), .slice (some ⟨RB, 0, none⟩) 64 64] 96 [.bool false, .int .i64 ((130 + i : Nat) : Int), .slice (some ⟨RB, 0, none⟩) 64 64] rfl) (by intro y hy; simp only [List.mem_cons, List.not_mem_nil, or_false] at hy; rcases hy with rfl | rfl | rfl <;> rfl) (by decide) (by unfold maxLen; omega) (by omega) (by rw [World.size_alloc]; have := (show _ ∧ _ from HOW).2; omega) (wr.heap.size + 1) (World.size_alloc _ _) ?_; intro g' cap' w8 hown1 hgrow1 hat hlt; have HN := (show ∀ (ob : Obj) (W8 : World) (g cap : Nat), _ from HPU) _ w8 g' cap' hown1 hgrow1 hat; clear hown1 hgrow1 hat hlt)
          go_roundw
          case rel => obtain ⟨V', hb, hk⟩ := HN; exact ⟨i + 1, a9 + 64, _, V', rfl, by go_num, by omega, ⟨hb, hk, by have := (show a9 = _ from H9); omega⟩⟩
          case measure => simp [intOf]; omega
      obtain ⟨hlt1, hlt2⟩ := hlt
      have hl1 : (b9 : Int) < (n : Int) := by omega
      have hl2 : (b9 : Int) < (a9 : Int) + 64 := by omega
      have hl3 : (b9 : Int) - (a9 : Int) = (t : Int) := by omega
      have hl4 : (t : Int) < 64 := by omega
      obtain ⟨a', ea, hca', hrow⟩ := (show ∀ W, Kb 0 wo W → _ from HRW) wr kq
      injection ea with ea
      subst ea
      have d0 : wr.cell? (a.add b9) = some (.int .u8 (A (i * 64 + t))) := by rw [hb9, h9]; exact hrow (i * 64 + t) hlt1
      have c0 := oq.cell t hlt2
      have f0 := oq.fz (by omega) t
      have hRB := (show RB = _ from HRB)
      have HN : Hid (b9 + 1 = a9 + (t + 1) ∧ a9 + (t + 1) ≤ n ∧ OwnR (wr.setCell ⟨RB, t, none⟩ (.int .u8 (A (i * 64 + t)))) (.slice (some ⟨RB, 0, none⟩) 64 64) RB 64 (ub (fun j => if j < t + 1 then A (i * 64 + j) else 0)) ∧ Kb 0 wo (wr.setCell ⟨RB, t, none⟩ (.int .u8 (A (i * 64 + t))))) := (⟨by omega, by omega, ⟨oq.sl, fun j hj => by
        dsimp only [ub]
        by_cases q : j = t
        · subst q
          rw [set_eq _ _ _ _ _ c0, if_pos (by omega)]
        · rw [set_ne _ _ _ _ _ q, oq.cell j hj]
          dsimp only [ub]
          by_cases r : j < t
          · rw [if_pos r, if_pos (by omega)]
          · rw [if_neg r, if_neg (by omega)], fun h j => by rw [World.frozen?_setCell]; exact oq.fz h j⟩, kq.setCell _ (.inr (by show _ ≤ RB; omega)) _⟩ : _ ∧ _)
      clear hrow hRB oq kq hb9 htn h9 hlt1 hlt2
      go_wp2_with fail
      go_roundw
      case rel => exact ⟨t + 1, b9 + 1, by go_num, by omega, HN⟩
      case measure => simp [intOf]; omega
end Go.Proofs.Ytaggciimacanbaa.Fo

namespace Go.Proofs.Ytaggciimacanbaa.Fo
open Go.ChangeShapes Go.WideShapes Go.ChangeAt Go.RowKit
set_option linter.unusedVariables false
set_option maxRecDepth 100000
set_option linter.unusedSimpArgs false
set_option maxHeartbeats 64000000 in
theorem sp_lops_0a {v1 v2 : Value} {D : Dd} {pa : Option Addr} {n ca : Nat} {A : Nat → Int} {xg : Int} {xn : Nat} {xA : Nat → Int} (w : World) (ha : RowD 0 w v1 v2 D) (hi : RowV w (.slice pa n ca) n (ub A)) (hn0 : 0 < n) (hn : n ≤ 8192) (hA : ∀ j, j < n → 0 ≤ A j ∧ A j ≤ 255) (hg0 : 0 ≤ xg) (hg1 : xg < 1000000000000) (hN : ∀ x1 x2 W, RowD 0 W x1 x2 D → Calls Try.prog 62 #[.agg #[x1, x2]] W (KiP false xg 0 xn xA W)) :
    Calls Try.prog 65 #[.agg #[v1, v2], .slice pa n ca] w fun e w' => ∃ v, e = .returned v ∧ RowE 3 0 w' v (opn n + 3) (opF A n 0 2 xg) ∧ Kb 0 w w' := by
  obtain ⟨⟨p1, c1, rfl, -⟩, ⟨p2, c2, rfl, -⟩⟩ := id ha
  obtain ⟨w1, hw1⟩ : ∃ w1, w1 = w.alloc (.cells #[.slice p1 D.n c1, .slice p2 D.m c2] 30) := ⟨_, rfl⟩
  have k1 : Kb 0 w w1 := by rw [hw1]; exact kb_alloc _ _ _
  have b1 : w1.heap[w.heap.size]? = some (.cells #[.slice p1 D.n c1, .slice p2 D.m c2] 30 (0, 0)) := by rw [hw1]; exact alloc_new _ _ _
  have u0 : w1.cell? ⟨w.heap.size, 0, none⟩ = some (.slice p1 D.n c1) := cell_of b1 rfl
  have u1 : w1.cell? ⟨w.heap.size, 1, none⟩ = some (.slice p2 D.m c2) := cell_of b1 rfl
  have HNC := hN _ _ w1 (ha.keep k1)
  have HW1 : Hid (w1 = w.alloc (.cells #[.slice p1 D.n c1, .slice p2 D.m c2] 30)) := hw1
  have HK1 : Hid (Kb 0 w w1) := k1
  obtain ⟨F, hF⟩ : ∃ F, F = opF A n 0 2 xg := ⟨_, rfl⟩
  rw [← hF]
  have HF : Hid (F = opF A n 0 2 xg) := hF
  have HIM : Hid ((∀ W, Kb 0 w W → RowV W (.slice pa n ca) n (ub A)) ∧ ∀ j, j < n → 0 ≤ A j ∧ A j ≤ 255) := (⟨fun W k => rowv_kq hi k, hA⟩ : _ ∧ _)
  have hnI : (n : Int) ≤ 8192 := by omega
  have hn0I : (0 : Int) < (n : Int) := by omega
  have hxgn : ¬ xg = 1000000000000 := by omega
  have hxg2 : (xg == 1000000000000) = false := by simp [hxgn]
  obtain ⟨i1, hi1, hz0, hz1, hz2⟩ := infoOp
  have HI1 : Hid (Try.prog.info? 96 = some i1) := hi1
  clear hw1 k1 b1 ha hi hA hN hi1 hF
  go_enter Try.func65, Try.ntmps65
  go_upto_region 1 with fail
  rw [← (show w1 = _ from HW1)]
  clear HW1
  go_wp2_with fail
  refine HNC.mono ?_
  rintro e wA ⟨vb', gb, rfl, ob, hgb, kA⟩
  obtain ⟨pb, cb, rfl, -⟩ := ob.sl
  obtain ⟨P5, hP5⟩ : ∃ P5, P5 = wA.heap.size := ⟨_, rfl⟩
  obtain ⟨w3, hw3⟩ : ∃ w3, w3 = wA.alloc (.cells #[.bool false, .int .i64 xg, .int .i64 0, .slice pb xn cb] 51) := ⟨_, rfl⟩
  have kA3 : Kb 0 wA w3 := by rw [hw3]; exact kb_alloc _ _ _
  have b5 : w3.heap[P5]? = some (.cells #[.bool false, .int .i64 xg, .int .i64 0, .slice pb xn cb] 51 (0, 0)) := by rw [hw3, hP5]; exact alloc_new _ _ _
  have e0 : w3.cell? ⟨P5, 0, none⟩ = some (.bool false) := cell_of b5 rfl
  have e1 : w3.cell? ⟨P5, 1, none⟩ = some (.int .i64 xg) := cell_of b5 rfl
  have e2 : w3.cell? ⟨P5, 2, none⟩ = some (.int .i64 0) := cell_of b5 rfl
  have HK3 : Hid (Kb 0 w w3 ∧ (∀ W, Kb 0 w3 W → W.cell? ⟨P5, 1, none⟩ = some (.int .i64 xg))) := (⟨((show Kb 0 w w1 from HK1).trans kA).trans kA3, fun W k => k.cell e1⟩ : _ ∧ _)
  have HW3 : Hid (w3 = wA.alloc (.cells #[.bool false, .int .i64 xg, .int .i64 0, .slice pb xn cb] 51) ∧ P5 = wA.heap.size) := (⟨hw3, hP5⟩ : _ ∧ _)
  obtain ⟨B0, hB0⟩ : ∃ B0, B0 = w3.heap.size := ⟨_, rfl⟩
  have HB0 : Hid (B0 = w3.heap.size) := hB0
  have HX0 : Hid (BRd B0 w3 (.slice none 0 0) 0 F (fun _ => .slice none 0 0) ∧ Kb 0 w3 w3) := (⟨BRd.nil _ _ _ _, Kb.refl _ _⟩ : _ ∧ _)
  clear HNC u0 u1 ob hgb kA hP5 hw3 kA3 b5 HK1 hB0
  go_upto_region 2 with fail
  rw [← (show _ ∧ _ from HW3).1, ← (show _ ∧ _ from HW3).2]
  clear HW3
  go_wp2_with fail
  clear e0 e1 e2
  go_loopw [7, 8] (fun s7 s8 wr => ∃ (i a9 : Nat) (v : Value) (V : Nat → Value), s7 = v ∧ s8 = .int .i64 (a9 : Int) ∧ i ≤ opn n ∧ Hid (BRd B0 wr v i F V ∧ Kb 0 w3 wr ∧ a9 = i * 64)) (fun _ s8 _ => 16384 - (intOf s8).toNat)
  case atStart => exact ⟨0, 0, _, _, rfl, rfl, Nat.zero_le _, ⟨(show _ ∧ _ from HX0).1, (show _ ∧ _ from HX0).2, rfl⟩⟩
  case round =>
    clear HX0
    obtain ⟨i, a9, v, V, rfl, rfl, hil, HX⟩ := hrel
    obtain ⟨hX, hkb, h9⟩ := (show _ ∧ _ ∧ _ from HX)
    obtain ⟨pl, cl, rfl⟩ := own_shape hX.ro
    clear HX
    have hon : opn n ≤ 128 := by unfold opn; omega
    have hBr : B0 ≤ wr.heap.size := by rw [show B0 = _ from HB0]; exact hkb.size
    by_cases hi : i * 64 < n
    case neg =>
      have hik : i = opn n := by unfold opn at hil ⊢; omega
      have hge : ¬ (a9 : Int) < (n : Int) := by omega
      have hi128 : (i : Int) ≤ 128 := by omega
      have eF : F i = ⟨true, 0, 0, fun _ => 0⟩ := by rw [show F = _ from HF, hik]; exact opF_s (by omega) (by omega)
      have hox : RdB wr.heap.size wr (.slice none 0 0) (F i).c (F i).A none := by rw [eF]; exact ⟨_, _, rfl, fun h => absurd h (Nat.lt_irrefl 0)⟩
      have kr := Kb.refl 0 wr
      obtain ⟨PC, hPC⟩ : ∃ PC, PC = cel 3 F V (i) := ⟨_, rfl⟩
      have HOW : Hid (wr.ownsRow B0 96 3 (.slice pl (i) cl) (i) PC ∧ B0 ≤ wr.heap.size) := (⟨by rw [hPC]; exact (hX.keep kr.size (fun q _ h2 => kr.block q (Nat.zero_le _) h2)).ro, Nat.le_trans hBr kr.size⟩ : _ ∧ _)
      have HPU : Hid (∀ (ob : Obj) (W8 : World) (g cap : Nat), W8.ownsRow B0 96 3 (.slice (some ⟨g, 0, none⟩) (i + 1) cap) (i + 1) (PC ++ [.bool true, .int .i64 0, .slice none 0 0]) → (wr.alloc ob).grownBy W8 (Value.slice pl (i) cl).ownBlock → ((Value.slice pl (i) cl).ownBlock = some g ∨ g = wr.heap.size + 1) → ∃ V', BRd B0 W8 (.slice (some ⟨g, 0, none⟩) (i + 1) cap) (i + 1) F V' ∧ Kb 0 w3 W8) := (fun ob W8 g cap h8 g8 ha => by
        have st := hX.step hBr kr hox (ob := ob) (by rw [← hPC, eF]; exact h8) g8 ha
        have k36 := hkb.trans kr
        have hb0 := (show B0 = _ from HB0)
        have z36 := k36.size
        refine ⟨_, st, ⟨by rw [g8.os]; exact k36.os, by rw [g8.output]; exact k36.output, by have := g8.size; rw [World.size_alloc] at this; omega, fun q h1 h2 => ?_⟩⟩
        exact ((g8.block q (by rw [World.size_alloc]; omega) (fun e => by have := (hX.ro.lt q e.symm).1; omega)).trans ((kb_alloc 0 _ ob).block q (Nat.zero_le _) (by omega))).trans (k36.block q h1 h2) : ∀ (ob : Obj) (W8 : World) (g cap : Nat), _)
      have HIK : Hid (i = opn n) := hik
      obtain ⟨SM, hSM⟩ : ∃ SM, SM = sgz A n := ⟨_, rfl⟩
      have HSM : Hid ((∀ W, Kb 0 w3 W → Calls Try.prog 101 #[.slice pa n ca] W fun e w' => e = .returned (.int .u64 (smz A n)) ∧ w' = W) ∧ IntKind.i64.wrap (smz A n) = SM ∧ SM = sgz A n) := (⟨fun W k => sp_sum W ((show _ ∧ _ from HIM).1 W ((show _ ∧ _ from HK3).1.trans k)) (by omega) (show _ ∧ _ from HIM).2, by rw [hSM, w64i]; rfl, hSM⟩ : _ ∧ _)
      clear hX hkb hBr eF hox kr hPC hik hi hil h9 hSM
      go_upto_region 18 with (refine wpList_append_lies _ (by rfl) (.tmp 63) (.tmp 65) 56 (by rfl) B0 96 i1 (.agg #[.bool false, .int .i64 0, .slice none 0 0]) 3 40 Try.underlying56 HI1 hz0 hz1 hz2 rfl (by decide) (.slice pl (i) cl) (i) PC (by rfl) ((show _ ∧ _ from HOW).1.alloc _) ⟨wr.heap.size, 0, none⟩ 1 1 [.bool true, .int .i64 0, .slice none 0 0] (by rfl) (by rfl) (qr_cells wr #[.bool true, .int .i64 0, .slice none 0 0] 96 [.bool true, .int .i64 0, .slice none 0 0] rfl) (by intro y hy; simp only [List.mem_cons, List.not_mem_nil, or_false] at hy; rcases hy with rfl | rfl | rfl <;> rfl) (by decide) (by unfold maxLen; omega) (by omega) (by rw [World.size_alloc]; have := (show _ ∧ _ from HOW).2; omega) (wr.heap.size + 1) (World.size_alloc _ _) ?_; intro g' cap' w8 hown1 hgrow1 hat hlt; have HN := (show ∀ (ob : Obj) (W8 : World) (g cap : Nat), _ from HPU) _ w8 g' cap' hown1 hgrow1 hat; clear hown1 hgrow1 hat hlt)
      obtain ⟨V1, hX, hkb⟩ := HN
      have HXX : Hid (BRd B0 w8 (.slice (some ⟨g', 0, none⟩) (i + 1) cap') (i + 1) F V1 ∧ Kb 0 w3 w8) := (⟨hX, hkb⟩ : _ ∧ _)
      have e1 := (show _ ∧ _ from HK3).2 w8 hkb
      have hxp : xg + 1 < 9223372036854775808 := by omega
      clear hX hkb HOW HPU
      refine AnyL.region (S := fun W' => W'.cell? ⟨P5, 1, none⟩ = some (.int .i64 xg)) (z := 10) (by kernel_rfl) ?_
      have hS0 : (fun W' : World => W'.cell? ⟨P5, 1, none⟩ = some (.int .i64 xg)) w8.drew := e1
      have HKD : Hid (Kb 0 w8 w8.drew) := (Kb.drewN (Kb.refl _ _) 1 : Kb 0 w8 w8.drew)
      obtain ⟨W0, hW0⟩ : ∃ W0, W0 = w8.drew := ⟨_, rfl⟩
      rw [← hW0] at HKD hS0 ⊢
      clear hW0 e1
      refine AnyL.takeAt 0 (.pointer (some ⟨P5, 1, none⟩)) rfl (by kernel_rfl) (by kernel_rfl) (by kernel_rfl) (by kernel_rfl) (fun _ _ _ h => h) rfl hS0 (by intro W hW; go_simp) ?_
      try simp only [Act.put, List.setIfInBounds_toArray, List.set_cons_zero, List.set_cons_succ]
      refine AnyL.takeAt 1 (.int .i64 xg) rfl (by kernel_rfl) (by kernel_rfl) (by kernel_rfl) (by kernel_rfl) (fun _ _ _ h => h) rfl hS0 (by intro W hW; go_simp) ?_
      try simp only [Act.put, List.setIfInBounds_toArray, List.set_cons_zero, List.set_cons_succ]
      refine AnyL.takeAt 2 (.int .i64 (xg + 1)) rfl (by kernel_rfl) (by kernel_rfl) (by kernel_rfl) (by kernel_rfl) (fun _ _ _ h => h) rfl hS0 (by intro W hW; go_simp; rw [w64i]; unfold wrap64; omega) ?_
      try simp only [Act.put, List.setIfInBounds_toArray, List.set_cons_zero, List.set_cons_succ]
      refine AnyL.takeAt 3 (.slice pa n ca) rfl (by kernel_rfl) (by kernel_rfl) (by kernel_rfl) (by kernel_rfl) (fun _ _ _ h => h) rfl hS0 (by intro W hW; go_simp) ?_
      try simp only [Act.put, List.setIfInBounds_toArray, List.set_cons_zero, List.set_cons_succ]
      refine AnyL.takeAt 4 (.int .i64 (n : Int)) rfl (by kernel_rfl) (by kernel_rfl) (by kernel_rfl) (by kernel_rfl) (fun _ _ _ h => h) rfl hS0 (by intro W hW; go_simp) ?_
      try simp only [Act.put, List.setIfInBounds_toArray, List.set_cons_zero, List.set_cons_succ]
      refine AnyL.takeAt 5 (.slice pa n ca) rfl (by kernel_rfl) (by kernel_rfl) (by kernel_rfl) (by kernel_rfl) (fun _ _ _ h => h) rfl hS0 (by intro W hW; go_simp) ?_
      try simp only [Act.put, List.setIfInBounds_toArray, List.set_cons_zero, List.set_cons_succ]
      have HKK9 : Hid (∀ W, Kb 0 w8 W → Kb 0 w3 W) := (fun W k => (show _ ∧ _ from HXX).2.trans k : ∀ W, _)
      refine anyl_two 6 9 rfl rfl (by kernel_rfl) rfl rfl ?_ ?_
      · intro K hK
        go_simp
        refine ((show _ ∧ _ from HSM).1 W0 ((show ∀ W, Kb 0 w8 W → _ from HKK9) W0 HKD)).mono ?_
        rintro e x1 ⟨rfl, hx1⟩
        rw [hx1]
        clear hx1
        refine hK.out _ _ (fun _ => hS0) ?_
        clear hK K
        try simp only [Act.put, List.setIfInBounds_toArray, List.set_cons_zero, List.set_cons_succ]
        refine AnyL.takeAt 7 (.int .i64 SM) rfl (by kernel_rfl) (by kernel_rfl) (by kernel_rfl) (by kernel_rfl) (fun _ _ _ h => h) rfl hS0 (by intro W hW; go_simp; rw [show IntKind.i64.wrap (smz A n) = SM from (show _ ∧ _ ∧ _ from HSM).2.1]) ?_
        try simp only [Act.put, List.setIfInBounds_toArray, List.set_cons_zero, List.set_cons_succ]
        refine AnyL.takeAt 8 (.agg #[.bool true, .int .i64 (xg + 1), .int .i64 (n : Int), .int .i64 SM]) rfl (by kernel_rfl) (by kernel_rfl) (by kernel_rfl) (by kernel_rfl) (fun _ _ _ h => h) rfl hS0 (by intro W hW; go_simp) ?_
        try simp only [Act.put, List.setIfInBounds_toArray, List.set_cons_zero, List.set_cons_succ]
        refine AnyL.oneAt 9 rfl (by kernel_rfl) rfl ?_
        intro K hK
        go_simp
        obtain ⟨WA, hWA⟩ : ∃ WA, WA = World.alloc W0 (.cells #[.bool false, .int .i64 0, .int .i64 0, .int .i64 0] 46) := ⟨_, rfl⟩
        have hSA : WA.cell? ⟨P5, 1, none⟩ = some (.int .i64 xg) := by rw [hWA]; exact (kb_alloc 0 _ _).cell hS0
        have HKA : Hid (Kb 0 w8 WA ∧ WA.heap[W0.heap.size]? = some (.cells #[.bool false, .int .i64 0, .int .i64 0, .int .i64 0] 46 (0, 0))) := (⟨by rw [hWA]; exact (show Kb 0 w8 W0 from HKD).trans (kb_alloc 0 _ _), by rw [hWA]; exact alloc_new _ _ _⟩ : _ ∧ _)
        rw [← hWA]
        clear hWA
        refine hK.out _ _ (fun _ => hSA) ?_
        clear hK K
        try simp only [Act.put, List.setIfInBounds_toArray, List.set_cons_zero, List.set_cons_succ]
        refine AnyL.oneAt 10 rfl (by kernel_rfl) rfl ?_
        intro K hK
        have hba := (show _ ∧ _ from HKA).2
        have g0 : WA.cell? ⟨W0.heap.size, 0, none⟩ = some (.bool false) := cell_of hba rfl
        have g1 : WA.cell? ⟨W0.heap.size, 1, none⟩ = some (.int .i64 0) := cell_of hba rfl
        have g2 : WA.cell? ⟨W0.heap.size, 2, none⟩ = some (.int .i64 0) := cell_of hba rfl
        have g3 : WA.cell? ⟨W0.heap.size, 3, none⟩ = some (.int .i64 0) := cell_of hba rfl
        have gf : ∀ j, WA.frozen? ⟨W0.heap.size, j, none⟩ = false := fun j => frozen_of hba
        obtain ⟨WB, hWB, bB, zB⟩ := four_set (.bool true) (.int .i64 (xg + 1)) (.int .i64 (n : Int)) (.int .i64 SM) hba
        have HWB : Hid (WB = _) := hWB
        have HB : Hid (Kb 0 w8 WB ∧ WB.heap[W0.heap.size]? = some (.cells #[.bool true, .int .i64 (xg + 1), .int .i64 (n : Int), .int .i64 SM] 46 (0, 0))) := (⟨zB.kb (show _ ∧ _ from HKA).1 (show Kb 0 w8 W0 from HKD).size, bB⟩ : _ ∧ _)
        clear hba hWB bB zB HKA
        go_simp
        rw [← (show WB = _ from HWB)]
        clear HWB g0 g1 g2 g3 gf
        refine hK.out _ _ (fun h => absurd rfl h) ?_
        clear hK K
        try simp only [Act.put, List.setIfInBounds_toArray, List.set_cons_zero, List.set_cons_succ]
        refine AnyL.done (by kernel_rfl) ?_
        obtain ⟨kB, bB⟩ := (show _ ∧ _ from HB)
        have q0 : WB.cell? ⟨W0.heap.size, 0, none⟩ = some (.bool true) := cell_of bB rfl
        have q1 : WB.cell? ⟨W0.heap.size, 1, none⟩ = some (.int .i64 (xg + 1)) := cell_of bB rfl
        have q2 : WB.cell? ⟨W0.heap.size, 2, none⟩ = some (.int .i64 (n : Int)) := cell_of bB rfl
        have q3 : WB.cell? ⟨W0.heap.size, 3, none⟩ = some (.int .i64 SM) := cell_of bB rfl
        have HL := sp_block (ok := true) (g := xg + 1) (l := (n : Int)) (s := SM) WB
        clear kB bB
        go_wp2_with fail
        refine HL.mono ?_
        rintro e wb ⟨vb2, rfl, rb, kb⟩
        obtain ⟨pb2, cb2, rfl, hrb⟩ := id rb
        obtain ⟨hX, hkb⟩ := (show _ ∧ _ from HXX)
        obtain ⟨kB, bB⟩ := (show _ ∧ _ from HB)
        have k8b := kB.trans kb
        have hBr : B0 ≤ w8.heap.size := by rw [show B0 = _ from HB0]; exact hkb.size
        have hik := (show i = _ from HIK)
        have eF : F (i + 1) = ⟨false, 0, 64, hdb (xg + 1) (n : Int) SM⟩ := by
          rw [show F = _ from HF, hik, (show _ ∧ _ ∧ _ from HSM).2.2]
          exact opF_h
        have hox : RdB w8.heap.size wb (.slice pb2 64 cb2) (F (i + 1)).c (F (i + 1)).A none := by
          rw [eF]
          refine ⟨_, _, rfl, fun _ => ?_⟩
          obtain ⟨a, r1, r2, r3, r4⟩ := hrb (by omega)
          exact ⟨a, r1, r2, by have := kB.size; omega, by have := lt_of_cell' (r4 0 (by omega)); rw [add_block] at this; exact this, fun q => (by cases q), r4⟩
        obtain ⟨PC, hPC⟩ : ∃ PC, PC = cel 3 F V1 (i + 1) := ⟨_, rfl⟩
        have HOW : Hid (wb.ownsRow B0 96 3 (.slice (some ⟨g', 0, none⟩) (i + 1) cap') (i + 1) PC ∧ B0 ≤ wb.heap.size) := (⟨by rw [hPC]; exact (hX.keep k8b.size (fun q _ h2 => k8b.block q (Nat.zero_le _) h2)).ro, Nat.le_trans hBr k8b.size⟩ : _ ∧ _)
        have HPU : Hid (∀ (ob : Obj) (W8 : World) (g cap : Nat), W8.ownsRow B0 96 3 (.slice (some ⟨g, 0, none⟩) (i + 1 + 1) cap) (i + 1 + 1) (PC ++ [.bool false, .int .i64 0, .slice pb2 64 cb2]) → (wb.alloc ob).grownBy W8 (Value.slice (some ⟨g', 0, none⟩) (i + 1) cap').ownBlock → ((Value.slice (some ⟨g', 0, none⟩) (i + 1) cap').ownBlock = some g ∨ g = wb.heap.size + 1) → ∃ V', BRd B0 W8 (.slice (some ⟨g, 0, none⟩) (i + 1 + 1) cap) (i + 1 + 1) F V' ∧ Kb 0 w3 W8) := (fun ob W8 g cap h8 g8 ha => by
          have st := hX.step hBr k8b hox (ob := ob) (by rw [← hPC, eF]; exact h8) g8 ha
          have k36 := hkb.trans k8b
          have hb0 := (show B0 = _ from HB0)
          have z36 := k36.size
          refine ⟨_, st, ⟨by rw [g8.os]; exact k36.os, by rw [g8.output]; exact k36.output, by have := g8.size; rw [World.size_alloc] at this; omega, fun q h1 h2 => ?_⟩⟩
          exact ((g8.block q (by rw [World.size_alloc]; omega) (fun e => by have := (hX.ro.lt q e.symm).1; omega)).trans ((kb_alloc 0 _ ob).block q (Nat.zero_le _) (by omega))).trans (k36.block q h1 h2) : ∀ (ob : Obj) (W8 : World) (g cap : Nat), _)
        clear HL rb kb hrb hX hkb kB bB k8b hBr hik eF hox hPC q0 q1 q2 q3 HB HXX
        go_upto_region 20 with (refine wpList_append_lies _ (by rfl) (.tmp 76) (.tmp 81) 56 (by rfl) B0 96 i1 (.agg #[.bool false, .int .i64 0, .slice none 0 0]) 3 40 Try.underlying56 HI1 hz0 hz1 hz2 rfl (by decide) (.slice (some ⟨g', 0, none⟩) (i + 1) cap') (i + 1) PC (by rfl) ((show _ ∧ _ from HOW).1.alloc _) ⟨wb.heap.size, 0, none⟩ 1 1 [.bool false, .int .i64 0, .slice pb2 64 cb2] (by rfl) (by rfl) (qr_cells wb #[.bool false, .int .i64 0, .slice pb2 64 cb2] 96 [.bool false, .int .i64 0, .slice pb2 64 cb2] rfl) (by intro y hy; simp only [List.mem_cons, List.not_mem_nil, or_false] at hy; rcases hy with rfl | rfl | rfl <;> rfl) (by decide) (by unfold maxLen; omega) (by omega) (by rw [World.size_alloc]; have := (show _ ∧ _ from HOW).2; omega) (wb.heap.size + 1) (World.size_alloc _ _) ?_; intro g'b cap'b w8b hown1 hgrow1 hat hlt; have HN := (show ∀ (ob : Obj) (W8 : World) (g cap : Nat), _ from HPU) _ w8b g'b cap'b hown1 hgrow1 hat; clear hown1 hgrow1 hat hlt)
        obtain ⟨V2, hX, hkb⟩ := HN
        have hBr : B0 ≤ w8b.heap.size := by rw [show B0 = _ from HB0]; exact hkb.size
        have hik := (show i = _ from HIK)
        have eF : F (i + 1 + 1) = ⟨true, 0, 0, fun _ => 0⟩ := by rw [show F = _ from HF, hik]; exact opF_s (by omega) (by omega)
        have hox : RdB w8b.heap.size w8b (.slice none 0 0) (F (i + 1 + 1)).c (F (i + 1 + 1)).A none := by rw [eF]; exact ⟨_, _, rfl, fun h => absurd h (Nat.lt_irrefl 0)⟩
        have kr := Kb.refl 0 w8b
        clear HOW HPU PC
        obtain ⟨PC, hPC⟩ : ∃ PC, PC = cel 3 F V2 (i + 1 + 1) := ⟨_, rfl⟩
        have HOW : Hid (w8b.ownsRow B0 96 3 (.slice (some ⟨g'b, 0, none⟩) (i + 1 + 1) cap'b) (i + 1 + 1) PC ∧ B0 ≤ w8b.heap.size) := (⟨by rw [hPC]; exact (hX.keep kr.size (fun q _ h2 => kr.block q (Nat.zero_le _) h2)).ro, Nat.le_trans hBr kr.size⟩ : _ ∧ _)
        have HPU : Hid (∀ (ob : Obj) (W8 : World) (g cap : Nat), W8.ownsRow B0 96 3 (.slice (some ⟨g, 0, none⟩) (i + 1 + 1 + 1) cap) (i + 1 + 1 + 1) (PC ++ [.bool true, .int .i64 0, .slice none 0 0]) → (w8b.alloc ob).grownBy W8 (Value.slice (some ⟨g'b, 0, none⟩) (i + 1 + 1) cap'b).ownBlock → ((Value.slice (some ⟨g'b, 0, none⟩) (i + 1 + 1) cap'b).ownBlock = some g ∨ g = w8b.heap.size + 1) → ∃ V', BRd B0 W8 (.slice (some ⟨g, 0, none⟩) (i + 1 + 1 + 1) cap) (i + 1 + 1 + 1) F V' ∧ Kb 0 w3 W8) := (fun ob W8 g cap h8 g8 ha => by
          have st := hX.step hBr kr hox (ob := ob) (by rw [← hPC, eF]; exact h8) g8 ha
          have k36 := hkb.trans kr
          have hb0 := (show B0 = _ from HB0)
          have z36 := k36.size
          refine ⟨_, st, ⟨by rw [g8.os]; exact k36.os, by rw [g8.output]; exact k36.output, by have := g8.size; rw [World.size_alloc] at this; omega, fun q h1 h2 => ?_⟩⟩
          exact ((g8.block q (by rw [World.size_alloc]; omega) (fun e => by have := (hX.ro.lt q e.symm).1; omega)).trans ((kb_alloc 0 _ ob).block q (Nat.zero_le _) (by omega))).trans (k36.block q h1 h2) : ∀ (ob : Obj) (W8 : World) (g cap : Nat), _)
        clear hX hkb hBr hik eF hox hPC kr
        go_wp2_with (refine wpList_append_lies _ (by rfl) (.tmp 83) (.tmp 85) 56 (by rfl) B0 96 i1 (.agg #[.bool false, .int .i64 0, .slice none 0 0]) 3 40 Try.underlying56 HI1 hz0 hz1 hz2 rfl (by decide) (.slice (some ⟨g'b, 0, none⟩) (i + 1 + 1) cap'b) (i + 1 + 1) PC (by rfl) ((show _ ∧ _ from HOW).1.alloc _) ⟨w8b.heap.size, 0, none⟩ 1 1 [.bool true, .int .i64 0, .slice none 0 0] (by rfl) (by rfl) (qr_cells w8b #[.bool true, .int .i64 0, .slice none 0 0] 96 [.bool true, .int .i64 0, .slice none 0 0] rfl) (by intro y hy; simp only [List.mem_cons, List.not_mem_nil, or_false] at hy; rcases hy with rfl | rfl | rfl <;> rfl) (by decide) (by unfold maxLen; omega) (by omega) (by rw [World.size_alloc]; have := (show _ ∧ _ from HOW).2; omega) (w8b.heap.size + 1) (World.size_alloc _ _) ?_; intro g'c cap'c w8c hown1 hgrow1 hat hlt; have HN := (show ∀ (ob : Obj) (W8 : World) (g cap : Nat), _ from HPU) _ w8c g'c cap'c hown1 hgrow1 hat; clear hown1 hgrow1 hat hlt)
        go_ret
        obtain ⟨V3, hX, hkb⟩ := HN
        refine ⟨_, rfl, ?_, (show _ ∧ _ from HK3).1.trans hkb⟩
        have := hX.rowE
        rw [show opn n + 3 = i + 1 + 1 + 1 by rw [show i = _ from HIK]]
        exact this
      · intro K hK
        go_simp
        obtain ⟨WA, hWA⟩ : ∃ WA, WA = World.alloc W0 (.cells #[.bool false, .int .i64 0, .int .i64 0, .int .i64 0] 46) := ⟨_, rfl⟩
        have hSA : WA.cell? ⟨P5, 1, none⟩ = some (.int .i64 xg) := by rw [hWA]; exact (kb_alloc 0 _ _).cell hS0
        have HKA : Hid (Kb 0 w8 WA ∧ WA.heap[W0.heap.size]? = some (.cells #[.bool false, .int .i64 0, .int .i64 0, .int .i64 0] 46 (0, 0))) := (⟨by rw [hWA]; exact (show Kb 0 w8 W0 from HKD).trans (kb_alloc 0 _ _), by rw [hWA]; exact alloc_new _ _ _⟩ : _ ∧ _)
        rw [← hWA]
        clear hWA
        refine hK.out _ _ (fun _ => hSA) ?_
        clear hK K
        try simp only [Act.put, List.setIfInBounds_toArray, List.set_cons_zero, List.set_cons_succ]
        refine AnyL.oneAt 6 rfl (by kernel_rfl) rfl ?_
        intro K hK
        go_simp
        refine ((show _ ∧ _ from HSM).1 WA ((show ∀ W, Kb 0 w8 W → _ from HKK9) WA (show _ ∧ _ from HKA).1)).mono ?_
        rintro e x1 ⟨rfl, hx1⟩
        rw [hx1]
        clear hx1
        refine hK.out _ _ (fun _ => hSA) ?_
        clear hK K
        try simp only [Act.put, List.setIfInBounds_toArray, List.set_cons_zero, List.set_cons_succ]
        refine AnyL.takeAt 7 (.int .i64 SM) rfl (by kernel_rfl) (by kernel_rfl) (by kernel_rfl) (by kernel_rfl) (fun _ _ _ h => h) rfl hSA (by intro W hW; go_simp; rw [show IntKind.i64.wrap (smz A n) = SM from (show _ ∧ _ ∧ _ from HSM).2.1]) ?_
        try simp only [Act.put, List.setIfInBounds_toArray, List.set_cons_zero, List.set_cons_succ]
        refine AnyL.takeAt 8 (.agg #[.bool true, .int .i64 (xg + 1), .int .i64 (n : Int), .int .i64 SM]) rfl (by kernel_rfl) (by kernel_rfl) (by kernel_rfl) (by kernel_rfl) (fun _ _ _ h => h) rfl hSA (by intro W hW; go_simp) ?_
        try simp only [Act.put, List.setIfInBounds_toArray, List.set_cons_zero, List.set_cons_succ]
        refine AnyL.oneAt 10 rfl (by kernel_rfl) rfl ?_
        intro K hK
        have hba := (show _ ∧ _ from HKA).2
        have g0 : WA.cell? ⟨W0.heap.size, 0, none⟩ = some (.bool false) := cell_of hba rfl
        have g1 : WA.cell? ⟨W0.heap.size, 1, none⟩ = some (.int .i64 0) := cell_of hba rfl
        have g2 : WA.cell? ⟨W0.heap.size, 2, none⟩ = some (.int .i64 0) := cell_of hba rfl
        have g3 : WA.cell? ⟨W0.heap.size, 3, none⟩ = some (.int .i64 0) := cell_of hba rfl
        have gf : ∀ j, WA.frozen? ⟨W0.heap.size, j, none⟩ = false := fun j => frozen_of hba
        obtain ⟨WB, hWB, bB, zB⟩ := four_set (.bool true) (.int .i64 (xg + 1)) (.int .i64 (n : Int)) (.int .i64 SM) hba
        have HWB : Hid (WB = _) := hWB
        have HB : Hid (Kb 0 w8 WB ∧ WB.heap[W0.heap.size]? = some (.cells #[.bool true, .int .i64 (xg + 1), .int .i64 (n : Int), .int .i64 SM] 46 (0, 0))) := (⟨zB.kb (show _ ∧ _ from HKA).1 (show Kb 0 w8 W0 from HKD).size, bB⟩ : _ ∧ _)
        clear hba hWB bB zB HKA
        go_simp
        rw [← (show WB = _ from HWB)]
        clear HWB g0 g1 g2 g3 gf
        refine hK.out _ _ (fun h => absurd rfl h) ?_
        clear hK K
        try simp only [Act.put, List.setIfInBounds_toArray, List.set_cons_zero, List.set_cons_succ]
        refine AnyL.done (by kernel_rfl) ?_
        obtain ⟨kB, bB⟩ := (show _ ∧ _ from HB)
        have q0 : WB.cell? ⟨W0.heap.size, 0, none⟩ = some (.bool true) := cell_of bB rfl
        have q1 : WB.cell? ⟨W0.heap.size, 1, none⟩ = some (.int .i64 (xg + 1)) := cell_of bB rfl
        have q2 : WB.cell? ⟨W0.heap.size, 2, none⟩ = some (.int .i64 (n : Int)) := cell_of bB rfl
        have q3 : WB.cell? ⟨W0.heap.size, 3, none⟩ = some (.int .i64 SM) := cell_of bB rfl
        have HL := sp_block (ok := true) (g := xg + 1) (l := (n : Int)) (s := SM) WB
        clear kB bB
        go_wp2_with fail
        refine HL.mono ?_
        rintro e wb ⟨vb2, rfl, rb, kb⟩
        obtain ⟨pb2, cb2, rfl, hrb⟩ := id rb
        obtain ⟨hX, hkb⟩ := (show _ ∧ _ from HXX)
        obtain ⟨kB, bB⟩ := (show _ ∧ _ from HB)
        have k8b := kB.trans kb
        have hBr : B0 ≤ w8.heap.size := by rw [show B0 = _ from HB0]; exact hkb.size
        have hik := (show i = _ from HIK)
        have eF : F (i + 1) = ⟨false, 0, 64, hdb (xg + 1) (n : Int) SM⟩ := by
          rw [show F = _ from HF, hik, (show _ ∧ _ ∧ _ from HSM).2.2]
          exact opF_h
        have hox : RdB w8.heap.size wb (.slice pb2 64 cb2) (F (i + 1)).c (F (i + 1)).A none := by
          rw [eF]
          refine ⟨_, _, rfl, fun _ => ?_⟩
          obtain ⟨a, r1, r2, r3, r4⟩ := hrb (by omega)
          exact ⟨a, r1, r2, by have := kB.size; omega, by have := lt_of_cell' (r4 0 (by omega)); rw [add_block] at this; exact this, fun q => (by cases q), r4⟩
        obtain ⟨PC, hPC⟩ : ∃ PC, PC = cel 3 F V1 (i + 1) := ⟨_, rfl⟩
        have HOW : Hid (wb.ownsRow B0 96 3 (.slice (some ⟨g', 0, none⟩) (i + 1) cap') (i + 1) PC ∧ B0 ≤ wb.heap.size) := (⟨by rw [hPC]; exact (hX.keep k8b.size (fun q _ h2 => k8b.block q (Nat.zero_le _) h2)).ro, Nat.le_trans hBr k8b.size⟩ : _ ∧ _)
        have HPU : Hid (∀ (ob : Obj) (W8 : World) (g cap : Nat), W8.ownsRow B0 96 3 (.slice (some ⟨g, 0, none⟩) (i + 1 + 1) cap) (i + 1 + 1) (PC ++ [.bool false, .int .i64 0, .slice pb2 64 cb2]) → (wb.alloc ob).grownBy W8 (Value.slice (some ⟨g', 0, none⟩) (i + 1) cap').ownBlock → ((Value.slice (some ⟨g', 0, none⟩) (i + 1) cap').ownBlock = some g ∨ g = wb.heap.size + 1) → ∃ V', BRd B0 W8 (.slice (some ⟨g, 0, none⟩) (i + 1 + 1) cap) (i + 1 + 1) F V' ∧ Kb 0 w3 W8) := (fun ob W8 g cap h8 g8 ha => by
          have st := hX.step hBr k8b hox (ob := ob) (by rw [← hPC, eF]; exact h8) g8 ha
          have k36 := hkb.trans k8b
          have hb0 := (show B0 = _ from HB0)
          have z36 := k36.size
          refine ⟨_, st, ⟨by rw [g8.os]; exact k36.os, by rw [g8.output]; exact k36.output, by have := g8.size; rw [World.size_alloc] at this; omega, fun q h1 h2 => ?_⟩⟩
          exact ((g8.block q (by rw [World.size_alloc]; omega) (fun e => by have := (hX.ro.lt q e.symm).1; omega)).trans ((kb_alloc 0 _ ob).block q (Nat.zero_le _) (by omega))).trans (k36.block q h1 h2) : ∀ (ob : Obj) (W8 : World) (g cap : Nat), _)
        clear HL rb kb hrb hX hkb kB bB k8b hBr hik eF hox hPC q0 q1 q2 q3 HB HXX
        go_upto_region 20 with (refine wpList_append_lies _ (by rfl) (.tmp 76) (.tmp 81) 56 (by rfl) B0 96 i1 (.agg #[.bool false, .int .i64 0, .slice none 0 0]) 3 40 Try.underlying56 HI1 hz0 hz1 hz2 rfl (by decide) (.slice (some ⟨g', 0, none⟩) (i + 1) cap') (i + 1) PC (by rfl) ((show _ ∧ _ from HOW).1.alloc _) ⟨wb.heap.size, 0, none⟩ 1 1 [.bool false, .int .i64 0, .slice pb2 64 cb2] (by rfl) (by rfl) (qr_cells wb #[.bool false, .int .i64 0, .slice pb2 64 cb2] 96 [.bool false, .int .i64 0, .slice pb2 64 cb2] rfl) (by intro y hy; simp only [List.mem_cons, List.not_mem_nil, or_false] at hy; rcases hy with rfl | rfl | rfl <;> rfl) (by decide) (by unfold maxLen; omega) (by omega) (by rw [World.size_alloc]; have := (show _ ∧ _ from HOW).2; omega) (wb.heap.size + 1) (World.size_alloc _ _) ?_; intro g'b cap'b w8b hown1 hgrow1 hat hlt; have HN := (show ∀ (ob : Obj) (W8 : World) (g cap : Nat), _ from HPU) _ w8b g'b cap'b hown1 hgrow1 hat; clear hown1 hgrow1 hat hlt)
        obtain ⟨V2, hX, hkb⟩ := HN
        have hBr : B0 ≤ w8b.heap.size := by rw [show B0 = _ from HB0]; exact hkb.size
        have hik := (show i = _ from HIK)
        have eF : F (i + 1 + 1) = ⟨true, 0, 0, fun _ => 0⟩ := by rw [show F = _ from HF, hik]; exact opF_s (by omega) (by omega)
        have hox : RdB w8b.heap.size w8b (.slice none 0 0) (F (i + 1 + 1)).c (F (i + 1 + 1)).A none := by rw [eF]; exact ⟨_, _, rfl, fun h => absurd h (Nat.lt_irrefl 0)⟩
        have kr := Kb.refl 0 w8b
        clear HOW HPU PC
        obtain ⟨PC, hPC⟩ : ∃ PC, PC = cel 3 F V2 (i + 1 + 1) := ⟨_, rfl⟩
        have HOW : Hid (w8b.ownsRow B0 96 3 (.slice (some ⟨g'b, 0, none⟩) (i + 1 + 1) cap'b) (i + 1 + 1) PC ∧ B0 ≤ w8b.heap.size) := (⟨by rw [hPC]; exact (hX.keep kr.size (fun q _ h2 => kr.block q (Nat.zero_le _) h2)).ro, Nat.le_trans hBr kr.size⟩ : _ ∧ _)
        have HPU : Hid (∀ (ob : Obj) (W8 : World) (g cap : Nat), W8.ownsRow B0 96 3 (.slice (some ⟨g, 0, none⟩) (i + 1 + 1 + 1) cap) (i + 1 + 1 + 1) (PC ++ [.bool true, .int .i64 0, .slice none 0 0]) → (w8b.alloc ob).grownBy W8 (Value.slice (some ⟨g'b, 0, none⟩) (i + 1 + 1) cap'b).ownBlock → ((Value.slice (some ⟨g'b, 0, none⟩) (i + 1 + 1) cap'b).ownBlock = some g ∨ g = w8b.heap.size + 1) → ∃ V', BRd B0 W8 (.slice (some ⟨g, 0, none⟩) (i + 1 + 1 + 1) cap) (i + 1 + 1 + 1) F V' ∧ Kb 0 w3 W8) := (fun ob W8 g cap h8 g8 ha => by
          have st := hX.step hBr kr hox (ob := ob) (by rw [← hPC, eF]; exact h8) g8 ha
          have k36 := hkb.trans kr
          have hb0 := (show B0 = _ from HB0)
          have z36 := k36.size
          refine ⟨_, st, ⟨by rw [g8.os]; exact k36.os, by rw [g8.output]; exact k36.output, by have := g8.size; rw [World.size_alloc] at this; omega, fun q h1 h2 => ?_⟩⟩
          exact ((g8.block q (by rw [World.size_alloc]; omega) (fun e => by have := (hX.ro.lt q e.symm).1; omega)).trans ((kb_alloc 0 _ ob).block q (Nat.zero_le _) (by omega))).trans (k36.block q h1 h2) : ∀ (ob : Obj) (W8 : World) (g cap : Nat), _)
        clear hX hkb hBr hik eF hox hPC kr
        go_wp2_with (refine wpList_append_lies _ (by rfl) (.tmp 83) (.tmp 85) 56 (by rfl) B0 96 i1 (.agg #[.bool false, .int .i64 0, .slice none 0 0]) 3 40 Try.underlying56 HI1 hz0 hz1 hz2 rfl (by decide) (.slice (some ⟨g'b, 0, none⟩) (i + 1 + 1) cap'b) (i + 1 + 1) PC (by rfl) ((show _ ∧ _ from HOW).1.alloc _) ⟨w8b.heap.size, 0, none⟩ 1 1 [.bool true, .int .i64 0, .slice none 0 0] (by rfl) (by rfl) (qr_cells w8b #[.bool true, .int .i64 0, .slice none 0 0] 96 [.bool true, .int .i64 0, .slice none 0 0] rfl) (by intro y hy; simp only [List.mem_cons, List.not_mem_nil, or_false] at hy; rcases hy with rfl | rfl | rfl <;> rfl) (by decide) (by unfold maxLen; omega) (by omega) (by rw [World.size_alloc]; have := (show _ ∧ _ from HOW).2; omega) (w8b.heap.size + 1) (World.size_alloc _ _) ?_; intro g'c cap'c w8c hown1 hgrow1 hat hlt; have HN := (show ∀ (ob : Obj) (W8 : World) (g cap : Nat), _ from HPU) _ w8c g'c cap'c hown1 hgrow1 hat; clear hown1 hgrow1 hat hlt)
        go_ret
        obtain ⟨V3, hX, hkb⟩ := HN
        refine ⟨_, rfl, ?_, (show _ ∧ _ from HK3).1.trans hkb⟩
        have := hX.rowE
        rw [show opn n + 3 = i + 1 + 1 + 1 by rw [show i = _ from HIK]]
        exact this
    obtain ⟨wo, rfl⟩ : ∃ wo, wo = wr := ⟨_, rfl⟩
    have hiI : (a9 : Int) < (n : Int) := by omega
    have hi2 : i < opn n := by unfold opn; omega
    have hi128 : (a9 : Int) < 8192 := by omega
    have hq9 : (a9 : Int) / 64 = (i : Int) := by omega
    have hq8 : Int.tdiv (a9 : Int) 64 = (i : Int) := by rw [h9]; rw [Int.natCast_mul]; exact Int.mul_tdiv_cancel _ (by decide)
    have H9 : Hid (a9 = i * 64) := h9
    have hmk : ∀ W : World, _ := fun W => run_make (P := Try.prog) W 26 5 Try.t5 (.int .u8 0) Try.underlying26 (by kernel_rfl) (by kernel_rfl) .i64 .i64 64 64 (by omega) (Int.le_refl _) (by decide) (by omega)
    have hmk2 : ∀ W : World, _ := fun W => (hmk W).trans (show _ = Result.ok (.slice (some ⟨W.heap.size, 0, none⟩) 64 64) (W.alloc (.cells M64 5)) from rfl)
    clear hmk
    obtain ⟨W5, hW5⟩ : ∃ W5, W5 = wo.alloc (.cells M64 5) := ⟨_, rfl⟩
    have k5 : Kb 0 wo W5 := by rw [hW5]; exact kb_alloc _ _ _
    have z5 : W5.heap.size = wo.heap.size + 1 := by rw [hW5]; exact World.size_alloc _ _
    have o5 : OwnR W5 (.slice (some ⟨wo.heap.size, 0, none⟩) 64 64) wo.heap.size 64 (ub (fun j => if j < 0 then A (i * 64 + j) else 0)) := own_made wo W5 hW5
    have HY0 : Hid (OwnR W5 (.slice (some ⟨wo.heap.size, 0, none⟩) 64 64) wo.heap.size 64 (ub (fun j => if j < 0 then A (i * 64 + j) else 0)) ∧ Kb 0 wo W5) := (⟨o5, k5⟩ : _ ∧ _)
    have HXX : Hid (BRd B0 wo (.slice pl i cl) i F V ∧ Kb 0 w3 wo ∧ B0 ≤ wo.heap.size) := (⟨hX, hkb, hBr⟩ : _ ∧ _)
    have HRW : Hid (∀ W, Kb 0 wo W → ∃ a : Addr, pa = some a ∧ n ≤ ca ∧ ∀ j, j < n → W.cell? (a.add j) = some (.int .u8 (A j))) := (fun W k => by
      obtain ⟨pa', ca', e, h2⟩ := (show _ ∧ _ from HIM).1 W (((show _ ∧ _ from HK3).1.trans hkb).trans k)
      injection e with e1 e2 e3
      obtain ⟨a, q1, q2, q3⟩ := h2 hn0
      exact ⟨a, by rw [e1]; exact q1, by omega, q3⟩ : ∀ W, _)
    obtain ⟨a, rfl, hca, -⟩ := (show ∀ W, Kb 0 wo W → _ from HRW) wo (Kb.refl _ _)
    have HW5 : Hid (W5 = wo.alloc (.cells M64 5)) := hW5
    obtain ⟨RB, hRB⟩ : ∃ RB, RB = wo.heap.size := ⟨_, rfl⟩
    have HRB : Hid (RB = wo.heap.size) := hRB
    rw [← hRB] at HY0
    clear hX hkb hBr k5 z5 o5 hW5 hil hRB h9 hi
    go_upto_region 12 with fail
    rw [← (show W5 = _ from HW5), ← (show RB = _ from HRB)]
    clear HW5 hmk2
    go_wp2_with fail
    go_loopw [10] (fun s10 wq => ∃ t b9 : Nat, s10 = .int .i64 (b9 : Int) ∧ t ≤ 64 ∧ Hid (b9 = a9 + t ∧ a9 + t ≤ n ∧ OwnR wq (.slice (some ⟨RB, 0, none⟩) 64 64) RB 64 (ub (fun j => if j < t then A (i * 64 + j) else 0)) ∧ Kb 0 wo wq)) (fun s10 _ => 16384 - (intOf s10).toNat)
    case atStart => exact ⟨0, a9, rfl, Nat.zero_le _, ⟨rfl, by have := (show a9 = _ from H9); omega, HY0⟩⟩
    case round =>
      clear HY0
      obtain ⟨t, b9, rfl, htl, HY⟩ := hrel
      obtain ⟨hb9, htn, oq, kq⟩ := (show _ ∧ _ ∧ _ ∧ _ from HY)
      have h9 := (show a9 = _ from H9)
      clear HY
      by_cases hlt : i * 64 + t < n ∧ t < 64
      case neg =>
        have oq2 : OwnR wr (.slice (some ⟨RB, 0, none⟩) 64 64) RB 64 (ub (pcA A n i)) := ⟨oq.sl, fun j hj => by
          rw [oq.cell j hj]
          dsimp only [ub, pcA]
          by_cases q : j < t
          · rw [if_pos q, if_pos (by omega)]
          · rw [if_neg q, if_neg (by omega)], oq.fz⟩
        obtain ⟨hX, hkb, hBr⟩ := (show _ ∧ _ ∧ _ from HXX)
        have eF : F i = ⟨false, ((2 + i : Nat) : Int), 64, pcA A n i⟩ := by rw [show F = _ from HF]; exact opF_p hi2
        have hRB := (show RB = _ from HRB)
        have hrbl : RB < wr.heap.size := lt_of_cell' (oq.cell 0 (by omega))
        have hox : RdB wo.heap.size wr (.slice (some ⟨RB, 0, none⟩) 64 64) (F i).c (F i).A none := by
          rw [eF]
          exact ⟨_, _, rfl, fun _ => ⟨_, rfl, Nat.le_refl _, by show _ ≤ RB; omega, hrbl, fun q => (by cases q), fun j hj => by rw [addr0]; exact oq2.cell j hj⟩⟩
        obtain ⟨PC, hPC⟩ : ∃ PC, PC = cel 3 F V (i) := ⟨_, rfl⟩
        have HOW : Hid (wr.ownsRow B0 96 3 (.slice pl (i) cl) (i) PC ∧ B0 ≤ wr.heap.size) := (⟨by rw [hPC]; exact (hX.keep kq.size (fun q _ h2 => kq.block q (Nat.zero_le _) h2)).ro, Nat.le_trans hBr kq.size⟩ : _ ∧ _)
        have HPU : Hid (∀ (ob : Obj) (W8 : World) (g cap : Nat), W8.ownsRow B0 96 3 (.slice (some ⟨g, 0, none⟩) (i + 1) cap) (i + 1) (PC ++ [.bool false, .int .i64 ((2 + i : Nat) : Int), .slice (some ⟨RB, 0, none⟩) 64 64]) → (wr.alloc ob).grownBy W8 (Value.slice pl (i) cl).ownBlock → ((Value.slice pl (i) cl).ownBlock = some g ∨ g = wr.heap.size + 1) → ∃ V', BRd B0 W8 (.slice (some ⟨g, 0, none⟩) (i + 1) cap) (i + 1) F V' ∧ Kb 0 w3 W8) := (fun ob W8 g cap h8 g8 ha => by
          have st := hX.step hBr kq hox (ob := ob) (by rw [← hPC, eF]; exact h8) g8 ha
          have k36 := hkb.trans kq
          have hb0 := (show B0 = _ from HB0)
          have z36 := k36.size
          refine ⟨_, st, ⟨by rw [g8.os]; exact k36.os, by rw [g8.output]; exact k36.output, by have := g8.size; rw [World.size_alloc] at this; omega, fun q h1 h2 => ?_⟩⟩
          exact ((g8.block q (by rw [World.size_alloc]; omega) (fun e => by have := (hX.ro.lt q e.symm).1; omega)).trans ((kb_alloc 0 _ ob).block q (Nat.zero_le _) (by omega))).trans (k36.block q h1 h2) : ∀ (ob : Obj) (W8 : World) (g cap : Nat), _)
        have hexit : ¬ (b9 : Int) < (n : Int) ∨ ((b9 : Int) < (n : Int) ∧ ¬ (b9 : Int) < (a9 : Int) + 64) := by omega
        clear hX hkb hBr oq oq2 kq eF hRB hrbl hox hPC HXX HRB HRW hb9 htn h9 hlt htl
        rcases hexit with hx | hx
        · skip
          go_wp2_with fail
          refine (sp_first0 wr).mono ?_
          rintro e wq2 ⟨rfl, hwq⟩
          rw [hwq]
          clear hwq
          go_wp2_with (refine wpList_append_lies _ (by rfl) (.tmp 53) (.tmp 61) 56 (by rfl) B0 96 i1 (.agg #[.bool false, .int .i64 0, .slice none 0 0]) 3 40 Try.underlying56 HI1 hz0 hz1 hz2 rfl (by decide) (.slice pl (i) cl) (i) PC (by rfl) ((show _ ∧ _ from HOW).1.alloc _) ⟨wr.heap.size, 0, none⟩ 1 1 [.bool false, .int .i64 ((2 + i : Nat) : Int), .slice (some ⟨RB, 0, none⟩) 64 64] (by rfl) (by rfl) (qr_cells wr #[.bool false, .int .i64 ((2 + i : Nat) : Int), .slice (some ⟨RB, 0, none⟩) 64 64] 96 [.bool false, .int .i64 ((2 + i : Nat) : Int), .slice (some ⟨RB, 0, none⟩) 64 64] rfl) (by intro y hy; simp only [List.mem_cons, List.not_mem_nil, or_false] at hy; rcases hy with rfl | rfl | rfl <;> rfl) (by decide) (by unfold maxLen; omega) (by omega) (by rw [World.size_alloc]; have := (show _ ∧ _ from HOW).2; omega) (wr.heap.size + 1) (World.size_alloc _ _) ?_; intro g' cap' w8 hown1 hgrow1 hat hlt; have HN := (show ∀ (ob : Obj) (W8 : World) (g cap : Nat), _ from HPU) _ w8 g' cap' hown1 hgrow1 hat; clear hown1 hgrow1 hat hlt)
          go_roundw
          case rel => obtain ⟨V', hb, hk⟩ := HN; exact ⟨i + 1, a9 + 64, _, V', rfl, by go_num, by omega, ⟨hb, hk, by have := (show a9 = _ from H9); omega⟩⟩
          case measure => simp [intOf]; omega
        · obtain ⟨hx1, hx2⟩ := hx
          go_wp2_with fail
          refine (sp_first0 wr).mono ?_
          rintro e wq2 ⟨rfl, hwq⟩
          rw [hwq]
          clear hwq
          go_wp2_with (refine wpList_append_lies _ (by rfl) (.tmp 53) (.tmp 61) 56 (by rfl) B0 96 i1 (.agg #[.bool false, .int .i64 0, .slice none 0 0]) 3 40 Try.underlying56 HI1 hz0 hz1 hz2 rfl (by decide) (.slice pl (i) cl) (i) PC (by rfl) ((show _ ∧ _ from HOW).1.alloc _) ⟨wr.heap.size, 0, none⟩ 1 1 [.bool false, .int .i64 ((2 + i : Nat) : Int), .slice (some ⟨RB, 0, none⟩) 64 64] (by rfl) (by rfl) (qr_cells wr #[.bool false, .int .i64 ((2 + i : Nat) : Int), .slice (some ⟨RB, 0, none⟩) 64 64] 96 [.bool false, .int .i64 ((2 + i : Nat) : Int), .slice (some ⟨RB, 0, none⟩) 64 64] rfl) (by intro y hy; simp only [List.mem_cons, List.not_mem_nil, or_false] at hy; rcases hy with rfl | rfl | rfl <;> rfl) (by decide) (by unfold maxLen; omega) (by omega) (by rw [World.size_alloc]; have := (show _ ∧ _ from HOW).2; omega) (wr.heap.size + 1) (World.size_alloc _ _) ?_; intro g' cap' w8 hown1 hgrow1 hat hlt; have HN := (show ∀ (ob : Obj) (W8 : World) (g cap : Nat), _ from HPU) _ w8 g' cap' hown1 hgrow1 hat; clear hown1 hgrow1 hat hlt)
          go_roundw
          case rel => obtain ⟨V', hb, hk⟩ := HN; exact ⟨i + 1, a9 + 64, _, V', rfl, by go_num, by omega, ⟨hb, hk, by have := (show a9 = _ from H9); omega⟩⟩
          case measure => simp [intOf]; omega
      obtain ⟨hlt1, hlt2⟩ := hlt
      have hl1 : (b9 : Int) < (n : Int) := by omega
      have hl2 : (b9 : Int) < (a9 : Int) + 64 := by omega
      have hl3 : (b9 : Int) - (a9 : Int) = (t : Int) := by omega
      have hl4 : (t : Int) < 64 := by omega
      obtain ⟨a', ea, hca', hrow⟩ := (show ∀ W, Kb 0 wo W → _ from HRW) wr kq
      injection ea with ea
      subst ea
      have d0 : wr.cell? (a.add b9) = some (.int .u8 (A (i * 64 + t))) := by rw [hb9, h9]; exact hrow (i * 64 + t) hlt1
      have c0 := oq.cell t hlt2
      have f0 := oq.fz (by omega) t
      have hRB := (show RB = _ from HRB)
      have HN : Hid (b9 + 1 = a9 + (t + 1) ∧ a9 + (t + 1) ≤ n ∧ OwnR (wr.setCell ⟨RB, t, none⟩ (.int .u8 (A (i * 64 + t)))) (.slice (some ⟨RB, 0, none⟩) 64 64) RB 64 (ub (fun j => if j < t + 1 then A (i * 64 + j) else 0)) ∧ Kb 0 wo (wr.setCell ⟨RB, t, none⟩ (.int .u8 (A (i * 64 + t))))) := (⟨by omega, by omega, ⟨oq.sl, fun j hj => by
        dsimp only [ub]
        by_cases q : j = t
        · subst q
          rw [set_eq _ _ _ _ _ c0, if_pos (by omega)]
        · rw [set_ne _ _ _ _ _ q, oq.cell j hj]
          dsimp only [ub]
          by_cases r : j < t
          · rw [if_pos r, if_pos (by omega)]
          · rw [if_neg r, if_neg (by omega)], fun h j => by rw [World.frozen?_setCell]; exact oq.fz h j⟩, kq.setCell _ (.inr (by show _ ≤ RB; omega)) _⟩ : _ ∧ _)
      clear hrow hRB oq kq hb9 htn h9 hlt1 hlt2
      go_wp2_with fail
      go_roundw
      case rel => exact ⟨t + 1, b9 + 1, by go_num, by omega, HN⟩
      case measure => simp [intOf]; omega
end Go.Proofs.Ytaggciimacanbaa.Fo

namespace Go.Proofs.Ytaggciimacanbaa.Fo
open Go.ChangeShapes Go.WideShapes Go.ChangeAt Go.RowKit
set_option linter.unusedVariables false
set_option maxRecDepth 100000
set_option linter.unusedSimpArgs false
set_option maxHeartbeats 64000000 in
theorem sp_lops_0b {v1 v2 : Value} {D : Dd} {pa : Option Addr} {n ca : Nat} {A : Nat → Int} {xg : Int} {xn : Nat} {xA : Nat → Int} (w : World) (ha : RowD 0 w v1 v2 D) (hi : RowV w (.slice pa n ca) n (ub A)) (hn0 : 0 < n) (hn : n ≤ 8192) (hA : ∀ j, j < n → 0 ≤ A j ∧ A j ≤ 255) (hg0 : 0 ≤ xg) (hg1 : xg < 1000000000000) (hN : ∀ x1 x2 W, RowD 0 W x1 x2 D → Calls Try.prog 62 #[.agg #[x1, x2]] W (KiP true xg 1 xn xA W)) :
    Calls Try.prog 65 #[.agg #[v1, v2], .slice pa n ca] w fun e w' => ∃ v, e = .returned v ∧ RowE 3 0 w' v (opn n + 3) (opF A n 0 2 xg) ∧ Kb 0 w w' := by
  obtain ⟨⟨p1, c1, rfl, -⟩, ⟨p2, c2, rfl, -⟩⟩ := id ha
  obtain ⟨w1, hw1⟩ : ∃ w1, w1 = w.alloc (.cells #[.slice p1 D.n c1, .slice p2 D.m c2] 30) := ⟨_, rfl⟩
  have k1 : Kb 0 w w1 := by rw [hw1]; exact kb_alloc _ _ _
  have b1 : w1.heap[w.heap.size]? = some (.cells #[.slice p1 D.n c1, .slice p2 D.m c2] 30 (0, 0)) := by rw [hw1]; exact alloc_new _ _ _
  have u0 : w1.cell? ⟨w.heap.size, 0, none⟩ = some (.slice p1 D.n c1) := cell_of b1 rfl
  have u1 : w1.cell? ⟨w.heap.size, 1, none⟩ = some (.slice p2 D.m c2) := cell_of b1 rfl
  have HNC := hN _ _ w1 (ha.keep k1)
  have HW1 : Hid (w1 = w.alloc (.cells #[.slice p1 D.n c1, .slice p2 D.m c2] 30)) := hw1
  have HK1 : Hid (Kb 0 w w1) := k1
  obtain ⟨F, hF⟩ : ∃ F, F = opF A n 0 2 xg := ⟨_, rfl⟩
  rw [← hF]
  have HF : Hid (F = opF A n 0 2 xg) := hF
  have HIM : Hid ((∀ W, Kb 0 w W → RowV W (.slice pa n ca) n (ub A)) ∧ ∀ j, j < n → 0 ≤ A j ∧ A j ≤ 255) := (⟨fun W k => rowv_kq hi k, hA⟩ : _ ∧ _)
  have hnI : (n : Int) ≤ 8192 := by omega
  have hn0I : (0 : Int) < (n : Int) := by omega
  have hxgn : ¬ xg = 1000000000000 := by omega
  have hxg2 : (xg == 1000000000000) = false := by simp [hxgn]
  obtain ⟨i1, hi1, hz0, hz1, hz2⟩ := infoOp
  have HI1 : Hid (Try.prog.info? 96 = some i1) := hi1
  clear hw1 k1 b1 ha hi hA hN hi1 hF
  go_enter Try.func65, Try.ntmps65
  go_upto_region 1 with fail
  rw [← (show w1 = _ from HW1)]
  clear HW1
  go_wp2_with fail
  refine HNC.mono ?_
  rintro e wA ⟨vb', gb, rfl, ob, hgb, kA⟩
  obtain ⟨pb, cb, rfl, -⟩ := ob.sl
  obtain ⟨P5, hP5⟩ : ∃ P5, P5 = wA.heap.size := ⟨_, rfl⟩
  obtain ⟨w3, hw3⟩ : ∃ w3, w3 = wA.alloc (.cells #[.bool true, .int .i64 xg, .int .i64 1, .slice pb xn cb] 51) := ⟨_, rfl⟩
  have kA3 : Kb 0 wA w3 := by rw [hw3]; exact kb_alloc _ _ _
  have b5 : w3.heap[P5]? = some (.cells #[.bool true, .int .i64 xg, .int .i64 1, .slice pb xn cb] 51 (0, 0)) := by rw [hw3, hP5]; exact alloc_new _ _ _
  have e0 : w3.cell? ⟨P5, 0, none⟩ = some (.bool true) := cell_of b5 rfl
  have e1 : w3.cell? ⟨P5, 1, none⟩ = some (.int .i64 xg) := cell_of b5 rfl
  have e2 : w3.cell? ⟨P5, 2, none⟩ = some (.int .i64 1) := cell_of b5 rfl
  have HK3 : Hid (Kb 0 w w3 ∧ (∀ W, Kb 0 w3 W → W.cell? ⟨P5, 1, none⟩ = some (.int .i64 xg))) := (⟨((show Kb 0 w w1 from HK1).trans kA).trans kA3, fun W k => k.cell e1⟩ : _ ∧ _)
  have HW3 : Hid (w3 = wA.alloc (.cells #[.bool true, .int .i64 xg, .int .i64 1, .slice pb xn cb] 51) ∧ P5 = wA.heap.size) := (⟨hw3, hP5⟩ : _ ∧ _)
  obtain ⟨B0, hB0⟩ : ∃ B0, B0 = w3.heap.size := ⟨_, rfl⟩
  have HB0 : Hid (B0 = w3.heap.size) := hB0
  have HX0 : Hid (BRd B0 w3 (.slice none 0 0) 0 F (fun _ => .slice none 0 0) ∧ Kb 0 w3 w3) := (⟨BRd.nil _ _ _ _, Kb.refl _ _⟩ : _ ∧ _)
  clear HNC u0 u1 ob hgb kA hP5 hw3 kA3 b5 HK1 hB0
  go_upto_region 2 with fail
  rw [← (show _ ∧ _ from HW3).1, ← (show _ ∧ _ from HW3).2]
  clear HW3
  go_wp2_with fail
  clear e0 e1 e2
  go_loopw [7, 8] (fun s7 s8 wr => ∃ (i a9 : Nat) (v : Value) (V : Nat → Value), s7 = v ∧ s8 = .int .i64 (a9 : Int) ∧ i ≤ opn n ∧ Hid (BRd B0 wr v i F V ∧ Kb 0 w3 wr ∧ a9 = i * 64)) (fun _ s8 _ => 16384 - (intOf s8).toNat)
  case atStart => exact ⟨0, 0, _, _, rfl, rfl, Nat.zero_le _, ⟨(show _ ∧ _ from HX0).1, (show _ ∧ _ from HX0).2, rfl⟩⟩
  case round =>
    clear HX0
    obtain ⟨i, a9, v, V, rfl, rfl, hil, HX⟩ := hrel
    obtain ⟨hX, hkb, h9⟩ := (show _ ∧ _ ∧ _ from HX)
    obtain ⟨pl, cl, rfl⟩ := own_shape hX.ro
    clear HX
    have hon : opn n ≤ 128 := by unfold opn; omega
    have hBr : B0 ≤ wr.heap.size := by rw [show B0 = _ from HB0]; exact hkb.size
    by_cases hi : i * 64 < n
    case neg =>
      have hik : i = opn n := by unfold opn at hil ⊢; omega
      have hge : ¬ (a9 : Int) < (n : Int) := by omega
      have hi128 : (i : Int) ≤ 128 := by omega
      have eF : F i = ⟨true, 0, 0, fun _ => 0⟩ := by rw [show F = _ from HF, hik]; exact opF_s (by omega) (by omega)
      have hox : RdB wr.heap.size wr (.slice none 0 0) (F i).c (F i).A none := by rw [eF]; exact ⟨_, _, rfl, fun h => absurd h (Nat.lt_irrefl 0)⟩
      have kr := Kb.refl 0 wr
      obtain ⟨PC, hPC⟩ : ∃ PC, PC = cel 3 F V (i) := ⟨_, rfl⟩
      have HOW : Hid (wr.ownsRow B0 96 3 (.slice pl (i) cl) (i) PC ∧ B0 ≤ wr.heap.size) := (⟨by rw [hPC]; exact (hX.keep kr.size (fun q _ h2 => kr.block q (Nat.zero_le _) h2)).ro, Nat.le_trans hBr kr.size⟩ : _ ∧ _)
      have HPU : Hid (∀ (ob : Obj) (W8 : World) (g cap : Nat), W8.ownsRow B0 96 3 (.slice (some ⟨g, 0, none⟩) (i + 1) cap) (i + 1) (PC ++ [.bool true, .int .i64 0, .slice none 0 0]) → (wr.alloc ob).grownBy W8 (Value.slice pl (i) cl).ownBlock → ((Value.slice pl (i) cl).ownBlock = some g ∨ g = wr.heap.size + 1) → ∃ V', BRd B0 W8 (.slice (some ⟨g, 0, none⟩) (i + 1) cap) (i + 1) F V' ∧ Kb 0 w3 W8) := (fun ob W8 g cap h8 g8 ha => by
        have st := hX.step hBr kr hox (ob := ob) (by rw [← hPC, eF]; exact h8) g8 ha
        have k36 := hkb.trans kr
        have hb0 := (show B0 = _ from HB0)
        have z36 := k36.size
        refine ⟨_, st, ⟨by rw [g8.os]; exact k36.os, by rw [g8.output]; exact k36.output, by have := g8.size; rw [World.size_alloc] at this; omega, fun q h1 h2 => ?_⟩⟩
        exact ((g8.block q (by rw [World.size_alloc]; omega) (fun e => by have := (hX.ro.lt q e.symm).1; omega)).trans ((kb_alloc 0 _ ob).block q (Nat.zero_le _) (by omega))).trans (k36.block q h1 h2) : ∀ (ob : Obj) (W8 : World) (g cap : Nat), _)
      have HIK : Hid (i = opn n) := hik
      obtain ⟨SM, hSM⟩ : ∃ SM, SM = sgz A n := ⟨_, rfl⟩
      have HSM : Hid ((∀ W, Kb 0 w3 W → Calls Try.prog 101 #[.slice pa n ca] W fun e w' => e = .returned (.int .u64 (smz A n)) ∧ w' = W) ∧ IntKind.i64.wrap (smz A n) = SM ∧ SM = sgz A n) := (⟨fun W k => sp_sum W ((show _ ∧ _ from HIM).1 W ((show _ ∧ _ from HK3).1.trans k)) (by omega) (show _ ∧ _ from HIM).2, by rw [hSM, w64i]; rfl, hSM⟩ : _ ∧ _)
      clear hX hkb hBr eF hox kr hPC hik hi hil h9 hSM
      go_upto_region 18 with (refine wpList_append_lies _ (by rfl) (.tmp 63) (.tmp 65) 56 (by rfl) B0 96 i1 (.agg #[.bool false, .int .i64 0, .slice none 0 0]) 3 40 Try.underlying56 HI1 hz0 hz1 hz2 rfl (by decide) (.slice pl (i) cl) (i) PC (by rfl) ((show _ ∧ _ from HOW).1.alloc _) ⟨wr.heap.size, 0, none⟩ 1 1 [.bool true, .int .i64 0, .slice none 0 0] (by rfl) (by rfl) (qr_cells wr #[.bool true, .int .i64 0, .slice none 0 0] 96 [.bool true, .int .i64 0, .slice none 0 0] rfl) (by intro y hy; simp only [List.mem_cons, List.not_mem_nil, or_false] at hy; rcases hy with rfl | rfl | rfl <;> rfl) (by decide) (by unfold maxLen; omega) (by omega) (by rw [World.size_alloc]; have := (show _ ∧ _ from HOW).2; omega) (wr.heap.size + 1) (World.size_alloc _ _) ?_; intro g' cap' w8 hown1 hgrow1 hat hlt; have HN := (show ∀ (ob : Obj) (W8 : World) (g cap : Nat), _ from HPU) _ w8 g' cap' hown1 hgrow1 hat; clear hown1 hgrow1 hat hlt)
      obtain ⟨V1, hX, hkb⟩ := HN
      have HXX : Hid (BRd B0 w8 (.slice (some ⟨g', 0, none⟩) (i + 1) cap') (i + 1) F V1 ∧ Kb 0 w3 w8) := (⟨hX, hkb⟩ : _ ∧ _)
      have e1 := (show _ ∧ _ from HK3).2 w8 hkb
      have hxp : xg + 1 < 9223372036854775808 := by omega
      clear hX hkb HOW HPU
      refine AnyL.region (S := fun W' => W'.cell? ⟨P5, 1, none⟩ = some (.int .i64 xg)) (z := 10) (by kernel_rfl) ?_
      have hS0 : (fun W' : World => W'.cell? ⟨P5, 1, none⟩ = some (.int .i64 xg)) w8.drew := e1
      have HKD : Hid (Kb 0 w8 w8.drew) := (Kb.drewN (Kb.refl _ _) 1 : Kb 0 w8 w8.drew)
      obtain ⟨W0, hW0⟩ : ∃ W0, W0 = w8.drew := ⟨_, rfl⟩
      rw [← hW0] at HKD hS0 ⊢
      clear hW0 e1
      refine AnyL.takeAt 0 (.pointer (some ⟨P5, 1, none⟩)) rfl (by kernel_rfl) (by kernel_rfl) (by kernel_rfl) (by kernel_rfl) (fun _ _ _ h => h) rfl hS0 (by intro W hW; go_simp) ?_
      try simp only [Act.put, List.setIfInBounds_toArray, List.set_cons_zero, List.set_cons_succ]
      refine AnyL.takeAt 1 (.int .i64 xg) rfl (by kernel_rfl) (by kernel_rfl) (by kernel_rfl) (by kernel_rfl) (fun _ _ _ h => h) rfl hS0 (by intro W hW; go_simp) ?_
      try simp only [Act.put, List.setIfInBounds_toArray, List.set_cons_zero, List.set_cons_succ]
      refine AnyL.takeAt 2 (.int .i64 (xg + 1)) rfl (by kernel_rfl) (by kernel_rfl) (by kernel_rfl) (by kernel_rfl) (fun _ _ _ h => h) rfl hS0 (by intro W hW; go_simp; rw [w64i]; unfold wrap64; omega) ?_
      try simp only [Act.put, List.setIfInBounds_toArray, List.set_cons_zero, List.set_cons_succ]
      refine AnyL.takeAt 3 (.slice pa n ca) rfl (by kernel_rfl) (by kernel_rfl) (by kernel_rfl) (by kernel_rfl) (fun _ _ _ h => h) rfl hS0 (by intro W hW; go_simp) ?_
      try simp only [Act.put, List.setIfInBounds_toArray, List.set_cons_zero, List.set_cons_succ]
      refine AnyL.takeAt 4 (.int .i64 (n : Int)) rfl (by kernel_rfl) (by kernel_rfl) (by kernel_rfl) (by kernel_rfl) (fun _ _ _ h => h) rfl hS0 (by intro W hW; go_simp) ?_
      try simp only [Act.put, List.setIfInBounds_toArray, List.set_cons_zero, List.set_cons_succ]
      refine AnyL.takeAt 5 (.slice pa n ca) rfl (by kernel_rfl) (by kernel_rfl) (by kernel_rfl) (by kernel_rfl) (fun _ _ _ h => h) rfl hS0 (by intro W hW; go_simp) ?_
      try simp only [Act.put, List.setIfInBounds_toArray, List.set_cons_zero, List.set_cons_succ]
      have HKK9 : Hid (∀ W, Kb 0 w8 W → Kb 0 w3 W) := (fun W k => (show _ ∧ _ from HXX).2.trans k : ∀ W, _)
      refine anyl_two 6 9 rfl rfl (by kernel_rfl) rfl rfl ?_ ?_
      · intro K hK
        go_simp
        refine ((show _ ∧ _ from HSM).1 W0 ((show ∀ W, Kb 0 w8 W → _ from HKK9) W0 HKD)).mono ?_
        rintro e x1 ⟨rfl, hx1⟩
        rw [hx1]
        clear hx1
        refine hK.out _ _ (fun _ => hS0) ?_
        clear hK K
        try simp only [Act.put, List.setIfInBounds_toArray, List.set_cons_zero, List.set_cons_succ]
        refine AnyL.takeAt 7 (.int .i64 SM) rfl (by kernel_rfl) (by kernel_rfl) (by kernel_rfl) (by kernel_rfl) (fun _ _ _ h => h) rfl hS0 (by intro W hW; go_simp; rw [show IntKind.i64.wrap (smz A n) = SM from (show _ ∧ _ ∧ _ from HSM).2.1]) ?_
        try simp only [Act.put, List.setIfInBounds_toArray, List.set_cons_zero, List.set_cons_succ]
        refine AnyL.takeAt 8 (.agg #[.bool true, .int .i64 (xg + 1), .int .i64 (n : Int), .int .i64 SM]) rfl (by kernel_rfl) (by kernel_rfl) (by kernel_rfl) (by kernel_rfl) (fun _ _ _ h => h) rfl hS0 (by intro W hW; go_simp) ?_
        try simp only [Act.put, List.setIfInBounds_toArray, List.set_cons_zero, List.set_cons_succ]
        refine AnyL.oneAt 9 rfl (by kernel_rfl) rfl ?_
        intro K hK
        go_simp
        obtain ⟨WA, hWA⟩ : ∃ WA, WA = World.alloc W0 (.cells #[.bool false, .int .i64 0, .int .i64 0, .int .i64 0] 46) := ⟨_, rfl⟩
        have hSA : WA.cell? ⟨P5, 1, none⟩ = some (.int .i64 xg) := by rw [hWA]; exact (kb_alloc 0 _ _).cell hS0
        have HKA : Hid (Kb 0 w8 WA ∧ WA.heap[W0.heap.size]? = some (.cells #[.bool false, .int .i64 0, .int .i64 0, .int .i64 0] 46 (0, 0))) := (⟨by rw [hWA]; exact (show Kb 0 w8 W0 from HKD).trans (kb_alloc 0 _ _), by rw [hWA]; exact alloc_new _ _ _⟩ : _ ∧ _)
        rw [← hWA]
        clear hWA
        refine hK.out _ _ (fun _ => hSA) ?_
        clear hK K
        try simp only [Act.put, List.setIfInBounds_toArray, List.set_cons_zero, List.set_cons_succ]
        refine AnyL.oneAt 10 rfl (by kernel_rfl) rfl ?_
        intro K hK
        have hba := (show _ ∧ _ from HKA).2
        have g0 : WA.cell? ⟨W0.heap.size, 0, none⟩ = some (.bool false) := cell_of hba rfl
        have g1 : WA.cell? ⟨W0.heap.size, 1, none⟩ = some (.int .i64 0) := cell_of hba rfl
        have g2 : WA.cell? ⟨W0.heap.size, 2, none⟩ = some (.int .i64 0) := cell_of hba rfl
        have g3 : WA.cell? ⟨W0.heap.size, 3, none⟩ = some (.int .i64 0) := cell_of hba rfl
        have gf : ∀ j, WA.frozen? ⟨W0.heap.size, j, none⟩ = false := fun j => frozen_of hba
        obtain ⟨WB, hWB, bB, zB⟩ := four_set (.bool true) (.int .i64 (xg + 1)) (.int .i64 (n : Int)) (.int .i64 SM) hba
        have HWB : Hid (WB = _) := hWB
        have HB : Hid (Kb 0 w8 WB ∧ WB.heap[W0.heap.size]? = some (.cells #[.bool true, .int .i64 (xg + 1), .int .i64 (n : Int), .int .i64 SM] 46 (0, 0))) := (⟨zB.kb (show _ ∧ _ from HKA).1 (show Kb 0 w8 W0 from HKD).size, bB⟩ : _ ∧ _)
        clear hba hWB bB zB HKA
        go_simp
        rw [← (show WB = _ from HWB)]
        clear HWB g0 g1 g2 g3 gf
        refine hK.out _ _ (fun h => absurd rfl h) ?_
        clear hK K
        try simp only [Act.put, List.setIfInBounds_toArray, List.set_cons_zero, List.set_cons_succ]
        refine AnyL.done (by kernel_rfl) ?_
        obtain ⟨kB, bB⟩ := (show _ ∧ _ from HB)
        have q0 : WB.cell? ⟨W0.heap.size, 0, none⟩ = some (.bool true) := cell_of bB rfl
        have q1 : WB.cell? ⟨W0.heap.size, 1, none⟩ = some (.int .i64 (xg + 1)) := cell_of bB rfl
        have q2 : WB.cell? ⟨W0.heap.size, 2, none⟩ = some (.int .i64 (n : Int)) := cell_of bB rfl
        have q3 : WB.cell? ⟨W0.heap.size, 3, none⟩ = some (.int .i64 SM) := cell_of bB rfl
        have HL := sp_block (ok := true) (g := xg + 1) (l := (n : Int)) (s := SM) WB
        clear kB bB
        go_wp2_with fail
        refine HL.mono ?_
        rintro e wb ⟨vb2, rfl, rb, kb⟩
        obtain ⟨pb2, cb2, rfl, hrb⟩ := id rb
        obtain ⟨hX, hkb⟩ := (show _ ∧ _ from HXX)
        obtain ⟨kB, bB⟩ := (show _ ∧ _ from HB)
        have k8b := kB.trans kb
        have hBr : B0 ≤ w8.heap.size := by rw [show B0 = _ from HB0]; exact hkb.size
        have hik := (show i = _ from HIK)
        have eF : F (i + 1) = ⟨false, 0, 64, hdb (xg + 1) (n : Int) SM⟩ := by
          rw [show F = _ from HF, hik, (show _ ∧ _ ∧ _ from HSM).2.2]
          exact opF_h
        have hox : RdB w8.heap.size wb (.slice pb2 64 cb2) (F (i + 1)).c (F (i + 1)).A none := by
          rw [eF]
          refine ⟨_, _, rfl, fun _ => ?_⟩
          obtain ⟨a, r1, r2, r3, r4⟩ := hrb (by omega)
          exact ⟨a, r1, r2, by have := kB.size; omega, by have := lt_of_cell' (r4 0 (by omega)); rw [add_block] at this; exact this, fun q => (by cases q), r4⟩
        obtain ⟨PC, hPC⟩ : ∃ PC, PC = cel 3 F V1 (i + 1) := ⟨_, rfl⟩
        have HOW : Hid (wb.ownsRow B0 96 3 (.slice (some ⟨g', 0, none⟩) (i + 1) cap') (i + 1) PC ∧ B0 ≤ wb.heap.size) := (⟨by rw [hPC]; exact (hX.keep k8b.size (fun q _ h2 => k8b.block q (Nat.zero_le _) h2)).ro, Nat.le_trans hBr k8b.size⟩ : _ ∧ _)
        have HPU : Hid (∀ (ob : Obj) (W8 : World) (g cap : Nat), W8.ownsRow B0 96 3 (.slice (some ⟨g, 0, none⟩) (i + 1 + 1) cap) (i + 1 + 1) (PC ++ [.bool false, .int .i64 0, .slice pb2 64 cb2]) → (wb.alloc ob).grownBy W8 (Value.slice (some ⟨g', 0, none⟩) (i + 1) cap').ownBlock → ((Value.slice (some ⟨g', 0, none⟩) (i + 1) cap').ownBlock = some g ∨ g = wb.heap.size + 1) → ∃ V', BRd B0 W8 (.slice (some ⟨g, 0, none⟩) (i + 1 + 1) cap) (i + 1 + 1) F V' ∧ Kb 0 w3 W8) := (fun ob W8 g cap h8 g8 ha => by
          have st := hX.step hBr k8b hox (ob := ob) (by rw [← hPC, eF]; exact h8) g8 ha
          have k36 := hkb.trans k8b
          have hb0 := (show B0 = _ from HB0)
          have z36 := k36.size
          refine ⟨_, st, ⟨by rw [g8.os]; exact k36.os, by rw [g8.output]; exact k36.output, by have := g8.size; rw [World.size_alloc] at this; omega, fun q h1 h2 => ?_⟩⟩
          exact ((g8.block q (by rw [World.size_alloc]; omega) (fun e => by have := (hX.ro.lt q e.symm).1; omega)).trans ((kb_alloc 0 _ ob).block q (Nat.zero_le _) (by omega))).trans (k36.block q h1 h2) : ∀ (ob : Obj) (W8 : World) (g cap : Nat), _)
        clear HL rb kb hrb hX hkb kB bB k8b hBr hik eF hox hPC q0 q1 q2 q3 HB HXX
        go_upto_region 20 with (refine wpList_append_lies _ (by rfl) (.tmp 76) (.tmp 81) 56 (by rfl) B0 96 i1 (.agg #[.bool false, .int .i64 0, .slice none 0 0]) 3 40 Try.underlying56 HI1 hz0 hz1 hz2 rfl (by decide) (.slice (some ⟨g', 0, none⟩) (i + 1) cap') (i + 1) PC (by rfl) ((show _ ∧ _ from HOW).1.alloc _) ⟨wb.heap.size, 0, none⟩ 1 1 [.bool false, .int .i64 0, .slice pb2 64 cb2] (by rfl) (by rfl) (qr_cells wb #[.bool false, .int .i64 0, .slice pb2 64 cb2] 96 [.bool false, .int .i64 0, .slice pb2 64 cb2] rfl) (by intro y hy; simp only [List.mem_cons, List.not_mem_nil, or_false] at hy; rcases hy with rfl | rfl | rfl <;> rfl) (by decide) (by unfold maxLen; omega) (by omega) (by rw [World.size_alloc]; have := (show _ ∧ _ from HOW).2; omega) (wb.heap.size + 1) (World.size_alloc _ _) ?_; intro g'b cap'b w8b hown1 hgrow1 hat hlt; have HN := (show ∀ (ob : Obj) (W8 : World) (g cap : Nat), _ from HPU) _ w8b g'b cap'b hown1 hgrow1 hat; clear hown1 hgrow1 hat hlt)
        obtain ⟨V2, hX, hkb⟩ := HN
        have hBr : B0 ≤ w8b.heap.size := by rw [show B0 = _ from HB0]; exact hkb.size
        have hik := (show i = _ from HIK)
        have eF : F (i + 1 + 1) = ⟨true, 0, 0, fun _ => 0⟩ := by rw [show F = _ from HF, hik]; exact opF_s (by omega) (by omega)
        have hox : RdB w8b.heap.size w8b (.slice none 0 0) (F (i + 1 + 1)).c (F (i + 1 + 1)).A none := by rw [eF]; exact ⟨_, _, rfl, fun h => absurd h (Nat.lt_irrefl 0)⟩
        have kr := Kb.refl 0 w8b
        clear HOW HPU PC
        obtain ⟨PC, hPC⟩ : ∃ PC, PC = cel 3 F V2 (i + 1 + 1) := ⟨_, rfl⟩
        have HOW : Hid (w8b.ownsRow B0 96 3 (.slice (some ⟨g'b, 0, none⟩) (i + 1 + 1) cap'b) (i + 1 + 1) PC ∧ B0 ≤ w8b.heap.size) := (⟨by rw [hPC]; exact (hX.keep kr.size (fun q _ h2 => kr.block q (Nat.zero_le _) h2)).ro, Nat.le_trans hBr kr.size⟩ : _ ∧ _)
        have HPU : Hid (∀ (ob : Obj) (W8 : World) (g cap : Nat), W8.ownsRow B0 96 3 (.slice (some ⟨g, 0, none⟩) (i + 1 + 1 + 1) cap) (i + 1 + 1 + 1) (PC ++ [.bool true, .int .i64 0, .slice none 0 0]) → (w8b.alloc ob).grownBy W8 (Value.slice (some ⟨g'b, 0, none⟩) (i + 1 + 1) cap'b).ownBlock → ((Value.slice (some ⟨g'b, 0, none⟩) (i + 1 + 1) cap'b).ownBlock = some g ∨ g = w8b.heap.size + 1) → ∃ V', BRd B0 W8 (.slice (some ⟨g, 0, none⟩) (i + 1 + 1 + 1) cap) (i + 1 + 1 + 1) F V' ∧ Kb 0 w3 W8) := (fun ob W8 g cap h8 g8 ha => by
          have st := hX.step hBr kr hox (ob := ob) (by rw [← hPC, eF]; exact h8) g8 ha
          have k36 := hkb.trans kr
          have hb0 := (show B0 = _ from HB0)
          have z36 := k36.size
          refine ⟨_, st, ⟨by rw [g8.os]; exact k36.os, by rw [g8.output]; exact k36.output, by have := g8.size; rw [World.size_alloc] at this; omega, fun q h1 h2 => ?_⟩⟩
          exact ((g8.block q (by rw [World.size_alloc]; omega) (fun e => by have := (hX.ro.lt q e.symm).1; omega)).trans ((kb_alloc 0 _ ob).block q (Nat.zero_le _) (by omega))).trans (k36.block q h1 h2) : ∀ (ob : Obj) (W8 : World) (g cap : Nat), _)
        clear hX hkb hBr hik eF hox hPC kr
        go_wp2_with (refine wpList_append_lies _ (by rfl) (.tmp 83) (.tmp 85) 56 (by rfl) B0 96 i1 (.agg #[.bool false, .int .i64 0, .slice none 0 0]) 3 40 Try.underlying56 HI1 hz0 hz1 hz2 rfl (by decide) (.slice (some ⟨g'b, 0, none⟩) (i + 1 + 1) cap'b) (i + 1 + 1) PC (by rfl) ((show _ ∧ _ from HOW).1.alloc _) ⟨w8b.heap.size, 0, none⟩ 1 1 [.bool true, .int .i64 0, .slice none 0 0] (by rfl) (by rfl) (qr_cells w8b #[.bool true, .int .i64 0, .slice none 0 0] 96 [.bool true, .int .i64 0, .slice none 0 0] rfl) (by intro y hy; simp only [List.mem_cons, List.not_mem_nil, or_false] at hy; rcases hy with rfl | rfl | rfl <;> rfl) (by decide) (by unfold maxLen; omega) (by omega) (by rw [World.size_alloc]; have := (show _ ∧ _ from HOW).2; omega) (w8b.heap.size + 1) (World.size_alloc _ _) ?_; intro g'c cap'c w8c hown1 hgrow1 hat hlt; have HN := (show ∀ (ob : Obj) (W8 : World) (g cap : Nat), _ from HPU) _ w8c g'c cap'c hown1 hgrow1 hat; clear hown1 hgrow1 hat hlt)
        go_ret
        obtain ⟨V3, hX, hkb⟩ := HN
        refine ⟨_, rfl, ?_, (show _ ∧ _ from HK3).1.trans hkb⟩
        have := hX.rowE
        rw [show opn n + 3 = i + 1 + 1 + 1 by rw [show i = _ from HIK]]
        exact this
      · intro K hK
        go_simp
        obtain ⟨WA, hWA⟩ : ∃ WA, WA = World.alloc W0 (.cells #[.bool false, .int .i64 0, .int .i64 0, .int .i64 0] 46) := ⟨_, rfl⟩
        have hSA : WA.cell? ⟨P5, 1, none⟩ = some (.int .i64 xg) := by rw [hWA]; exact (kb_alloc 0 _ _).cell hS0
        have HKA : Hid (Kb 0 w8 WA ∧ WA.heap[W0.heap.size]? = some (.cells #[.bool false, .int .i64 0, .int .i64 0, .int .i64 0] 46 (0, 0))) := (⟨by rw [hWA]; exact (show Kb 0 w8 W0 from HKD).trans (kb_alloc 0 _ _), by rw [hWA]; exact alloc_new _ _ _⟩ : _ ∧ _)
        rw [← hWA]
        clear hWA
        refine hK.out _ _ (fun _ => hSA) ?_
        clear hK K
        try simp only [Act.put, List.setIfInBounds_toArray, List.set_cons_zero, List.set_cons_succ]
        refine AnyL.oneAt 6 rfl (by kernel_rfl) rfl ?_
        intro K hK
        go_simp
        refine ((show _ ∧ _ from HSM).1 WA ((show ∀ W, Kb 0 w8 W → _ from HKK9) WA (show _ ∧ _ from HKA).1)).mono ?_
        rintro e x1 ⟨rfl, hx1⟩
        rw [hx1]
        clear hx1
        refine hK.out _ _ (fun _ => hSA) ?_
        clear hK K
        try simp only [Act.put, List.setIfInBounds_toArray, List.set_cons_zero, List.set_cons_succ]
        refine AnyL.takeAt 7 (.int .i64 SM) rfl (by kernel_rfl) (by kernel_rfl) (by kernel_rfl) (by kernel_rfl) (fun _ _ _ h => h) rfl hSA (by intro W hW; go_simp; rw [show IntKind.i64.wrap (smz A n) = SM from (show _ ∧ _ ∧ _ from HSM).2.1]) ?_
        try simp only [Act.put, List.setIfInBounds_toArray, List.set_cons_zero, List.set_cons_succ]
        refine AnyL.takeAt 8 (.agg #[.bool true, .int .i64 (xg + 1), .int .i64 (n : Int), .int .i64 SM]) rfl (by kernel_rfl) (by kernel_rfl) (by kernel_rfl) (by kernel_rfl) (fun _ _ _ h => h) rfl hSA (by intro W hW; go_simp) ?_
        try simp only [Act.put, List.setIfInBounds_toArray, List.set_cons_zero, List.set_cons_succ]
        refine AnyL.oneAt 10 rfl (by kernel_rfl) rfl ?_
        intro K hK
        have hba := (show _ ∧ _ from HKA).2
        have g0 : WA.cell? ⟨W0.heap.size, 0, none⟩ = some (.bool false) := cell_of hba rfl
        have g1 : WA.cell? ⟨W0.heap.size, 1, none⟩ = some (.int .i64 0) := cell_of hba rfl
        have g2 : WA.cell? ⟨W0.heap.size, 2, none⟩ = some (.int .i64 0) := cell_of hba rfl
        have g3 : WA.cell? ⟨W0.heap.size, 3, none⟩ = some (.int .i64 0) := cell_of hba rfl
        have gf : ∀ j, WA.frozen? ⟨W0.heap.size, j, none⟩ = false := fun j => frozen_of hba
        obtain ⟨WB, hWB, bB, zB⟩ := four_set (.bool true) (.int .i64 (xg + 1)) (.int .i64 (n : Int)) (.int .i64 SM) hba
        have HWB : Hid (WB = _) := hWB
        have HB : Hid (Kb 0 w8 WB ∧ WB.heap[W0.heap.size]? = some (.cells #[.bool true, .int .i64 (xg + 1), .int .i64 (n : Int), .int .i64 SM] 46 (0, 0))) := (⟨zB.kb (show _ ∧ _ from HKA).1 (show Kb 0 w8 W0 from HKD).size, bB⟩ : _ ∧ _)
        clear hba hWB bB zB HKA
        go_simp
        rw [← (show WB = _ from HWB)]
        clear HWB g0 g1 g2 g3 gf
        refine hK.out _ _ (fun h => absurd rfl h) ?_
        clear hK K
        try simp only [Act.put, List.setIfInBounds_toArray, List.set_cons_zero, List.set_cons_succ]
        refine AnyL.done (by kernel_rfl) ?_
        obtain ⟨kB, bB⟩ := (show _ ∧ _ from HB)
        have q0 : WB.cell? ⟨W0.heap.size, 0, none⟩ = some (.bool true) := cell_of bB rfl
        have q1 : WB.cell? ⟨W0.heap.size, 1, none⟩ = some (.int .i64 (xg + 1)) := cell_of bB rfl
        have q2 : WB.cell? ⟨W0.heap.size, 2, none⟩ = some (.int .i64 (n : Int)) := cell_of bB rfl
        have q3 : WB.cell? ⟨W0.heap.size, 3, none⟩ = some (.int .i64 SM) := cell_of bB rfl
        have HL := sp_block (ok := true) (g := xg + 1) (l := (n : Int)) (s := SM) WB
        clear kB bB
        go_wp2_with fail
        refine HL.mono ?_
        rintro e wb ⟨vb2, rfl, rb, kb⟩
        obtain ⟨pb2, cb2, rfl, hrb⟩ := id rb
        obtain ⟨hX, hkb⟩ := (show _ ∧ _ from HXX)
        obtain ⟨kB, bB⟩ := (show _ ∧ _ from HB)
        have k8b := kB.trans kb
        have hBr : B0 ≤ w8.heap.size := by rw [show B0 = _ from HB0]; exact hkb.size
        have hik := (show i = _ from HIK)
        have eF : F (i + 1) = ⟨false, 0, 64, hdb (xg + 1) (n : Int) SM⟩ := by
          rw [show F = _ from HF, hik, (show _ ∧ _ ∧ _ from HSM).2.2]
          exact opF_h
        have hox : RdB w8.heap.size wb (.slice pb2 64 cb2) (F (i + 1)).c (F (i + 1)).A none := by
          rw [eF]
          refine ⟨_, _, rfl, fun _ => ?_⟩
          obtain ⟨a, r1, r2, r3, r4⟩ := hrb (by omega)
          exact ⟨a, r1, r2, by have := kB.size; omega, by have := lt_of_cell' (r4 0 (by omega)); rw [add_block] at this; exact this, fun q => (by cases q), r4⟩
        obtain ⟨PC, hPC⟩ : ∃ PC, PC = cel 3 F V1 (i + 1) := ⟨_, rfl⟩
        have HOW : Hid (wb.ownsRow B0 96 3 (.slice (some ⟨g', 0, none⟩) (i + 1) cap') (i + 1) PC ∧ B0 ≤ wb.heap.size) := (⟨by rw [hPC]; exact (hX.keep k8b.size (fun q _ h2 => k8b.block q (Nat.zero_le _) h2)).ro, Nat.le_trans hBr k8b.size⟩ : _ ∧ _)
        have HPU : Hid (∀ (ob : Obj) (W8 : World) (g cap : Nat), W8.ownsRow B0 96 3 (.slice (some ⟨g, 0, none⟩) (i + 1 + 1) cap) (i + 1 + 1) (PC ++ [.bool false, .int .i64 0, .slice pb2 64 cb2]) → (wb.alloc ob).grownBy W8 (Value.slice (some ⟨g', 0, none⟩) (i + 1) cap').ownBlock → ((Value.slice (some ⟨g', 0, none⟩) (i + 1) cap').ownBlock = some g ∨ g = wb.heap.size + 1) → ∃ V', BRd B0 W8 (.slice (some ⟨g, 0, none⟩) (i + 1 + 1) cap) (i + 1 + 1) F V' ∧ Kb 0 w3 W8) := (fun ob W8 g cap h8 g8 ha => by
          have st := hX.step hBr k8b hox (ob := ob) (by rw [← hPC, eF]; exact h8) g8 ha
          have k36 := hkb.trans k8b
          have hb0 := (show B0 = _ from HB0)
          have z36 := k36.size
          refine ⟨_, st, ⟨by rw [g8.os]; exact k36.os, by rw [g8.output]; exact k36.output, by have := g8.size; rw [World.size_alloc] at this; omega, fun q h1 h2 => ?_⟩⟩
          exact ((g8.block q (by rw [World.size_alloc]; omega) (fun e => by have := (hX.ro.lt q e.symm).1; omega)).trans ((kb_alloc 0 _ ob).block q (Nat.zero_le _) (by omega))).trans (k36.block q h1 h2) : ∀ (ob : Obj) (W8 : World) (g cap : Nat), _)
        clear HL rb kb hrb hX hkb kB bB k8b hBr hik eF hox hPC q0 q1 q2 q3 HB HXX
        go_upto_region 20 with (refine wpList_append_lies _ (by rfl) (.tmp 76) (.tmp 81) 56 (by rfl) B0 96 i1 (.agg #[.bool false, .int .i64 0, .slice none 0 0]) 3 40 Try.underlying56 HI1 hz0 hz1 hz2 rfl (by decide) (.slice (some ⟨g', 0, none⟩) (i + 1) cap') (i + 1) PC (by rfl) ((show _ ∧ _ from HOW).1.alloc _) ⟨wb.heap.size, 0, none⟩ 1 1 [.bool false, .int .i64 0, .slice pb2 64 cb2] (by rfl) (by rfl) (qr_cells wb #[.bool false, .int .i64 0, .slice pb2 64 cb2] 96 [.bool false, .int .i64 0, .slice pb2 64 cb2] rfl) (by intro y hy; simp only [List.mem_cons, List.not_mem_nil, or_false] at hy; rcases hy with rfl | rfl | rfl <;> rfl) (by decide) (by unfold maxLen; omega) (by omega) (by rw [World.size_alloc]; have := (show _ ∧ _ from HOW).2; omega) (wb.heap.size + 1) (World.size_alloc _ _) ?_; intro g'b cap'b w8b hown1 hgrow1 hat hlt; have HN := (show ∀ (ob : Obj) (W8 : World) (g cap : Nat), _ from HPU) _ w8b g'b cap'b hown1 hgrow1 hat; clear hown1 hgrow1 hat hlt)
        obtain ⟨V2, hX, hkb⟩ := HN
        have hBr : B0 ≤ w8b.heap.size := by rw [show B0 = _ from HB0]; exact hkb.size
        have hik := (show i = _ from HIK)
        have eF : F (i + 1 + 1) = ⟨true, 0, 0, fun _ => 0⟩ := by rw [show F = _ from HF, hik]; exact opF_s (by omega) (by omega)
        have hox : RdB w8b.heap.size w8b (.slice none 0 0) (F (i + 1 + 1)).c (F (i + 1 + 1)).A none := by rw [eF]; exact ⟨_, _, rfl, fun h => absurd h (Nat.lt_irrefl 0)⟩
        have kr := Kb.refl 0 w8b
        clear HOW HPU PC
        obtain ⟨PC, hPC⟩ : ∃ PC, PC = cel 3 F V2 (i + 1 + 1) := ⟨_, rfl⟩
        have HOW : Hid (w8b.ownsRow B0 96 3 (.slice (some ⟨g'b, 0, none⟩) (i + 1 + 1) cap'b) (i + 1 + 1) PC ∧ B0 ≤ w8b.heap.size) := (⟨by rw [hPC]; exact (hX.keep kr.size (fun q _ h2 => kr.block q (Nat.zero_le _) h2)).ro, Nat.le_trans hBr kr.size⟩ : _ ∧ _)
        have HPU : Hid (∀ (ob : Obj) (W8 : World) (g cap : Nat), W8.ownsRow B0 96 3 (.slice (some ⟨g, 0, none⟩) (i + 1 + 1 + 1) cap) (i + 1 + 1 + 1) (PC ++ [.bool true, .int .i64 0, .slice none 0 0]) → (w8b.alloc ob).grownBy W8 (Value.slice (some ⟨g'b, 0, none⟩) (i + 1 + 1) cap'b).ownBlock → ((Value.slice (some ⟨g'b, 0, none⟩) (i + 1 + 1) cap'b).ownBlock = some g ∨ g = w8b.heap.size + 1) → ∃ V', BRd B0 W8 (.slice (some ⟨g, 0, none⟩) (i + 1 + 1 + 1) cap) (i + 1 + 1 + 1) F V' ∧ Kb 0 w3 W8) := (fun ob W8 g cap h8 g8 ha => by
          have st := hX.step hBr kr hox (ob := ob) (by rw [← hPC, eF]; exact h8) g8 ha
          have k36 := hkb.trans kr
          have hb0 := (show B0 = _ from HB0)
          have z36 := k36.size
          refine ⟨_, st, ⟨by rw [g8.os]; exact k36.os, by rw [g8.output]; exact k36.output, by have := g8.size; rw [World.size_alloc] at this; omega, fun q h1 h2 => ?_⟩⟩
          exact ((g8.block q (by rw [World.size_alloc]; omega) (fun e => by have := (hX.ro.lt q e.symm).1; omega)).trans ((kb_alloc 0 _ ob).block q (Nat.zero_le _) (by omega))).trans (k36.block q h1 h2) : ∀ (ob : Obj) (W8 : World) (g cap : Nat), _)
        clear hX hkb hBr hik eF hox hPC kr
        go_wp2_with (refine wpList_append_lies _ (by rfl) (.tmp 83) (.tmp 85) 56 (by rfl) B0 96 i1 (.agg #[.bool false, .int .i64 0, .slice none 0 0]) 3 40 Try.underlying56 HI1 hz0 hz1 hz2 rfl (by decide) (.slice (some ⟨g'b, 0, none⟩) (i + 1 + 1) cap'b) (i + 1 + 1) PC (by rfl) ((show _ ∧ _ from HOW).1.alloc _) ⟨w8b.heap.size, 0, none⟩ 1 1 [.bool true, .int .i64 0, .slice none 0 0] (by rfl) (by rfl) (qr_cells w8b #[.bool true, .int .i64 0, .slice none 0 0] 96 [.bool true, .int .i64 0, .slice none 0 0] rfl) (by intro y hy; simp only [List.mem_cons, List.not_mem_nil, or_false] at hy; rcases hy with rfl | rfl | rfl <;> rfl) (by decide) (by unfold maxLen; omega) (by omega) (by rw [World.size_alloc]; have := (show _ ∧ _ from HOW).2; omega) (w8b.heap.size + 1) (World.size_alloc _ _) ?_; intro g'c cap'c w8c hown1 hgrow1 hat hlt; have HN := (show ∀ (ob : Obj) (W8 : World) (g cap : Nat), _ from HPU) _ w8c g'c cap'c hown1 hgrow1 hat; clear hown1 hgrow1 hat hlt)
        go_ret
        obtain ⟨V3, hX, hkb⟩ := HN
        refine ⟨_, rfl, ?_, (show _ ∧ _ from HK3).1.trans hkb⟩
        have := hX.rowE
        rw [show opn n + 3 = i + 1 + 1 + 1 by rw [show i = _ from HIK]]
        exact this
    obtain ⟨wo, rfl⟩ : ∃ wo, wo = wr := ⟨_, rfl⟩
    have hiI : (a9 : Int) < (n : Int) := by omega
    have hi2 : i < opn n := by unfold opn; omega
    have hi128 : (a9 : Int) < 8192 := by omega
    have hq9 : (a9 : Int) / 64 = (i : Int) := by omega
    have hq8 : Int.tdiv (a9 : Int) 64 = (i : Int) := by rw [h9]; rw [Int.natCast_mul]; exact Int.mul_tdiv_cancel _ (by decide)
    have H9 : Hid (a9 = i * 64) := h9
    have hmk : ∀ W : World, _ := fun W => run_make (P := Try.prog) W 26 5 Try.t5 (.int .u8 0) Try.underlying26 (by kernel_rfl) (by kernel_rfl) .i64 .i64 64 64 (by omega) (Int.le_refl _) (by decide) (by omega)
    have hmk2 : ∀ W : World, _ := fun W => (hmk W).trans (show _ = Result.ok (.slice (some ⟨W.heap.size, 0, none⟩) 64 64) (W.alloc (.cells M64 5)) from rfl)
    clear hmk
    obtain ⟨W5, hW5⟩ : ∃ W5, W5 = wo.alloc (.cells M64 5) := ⟨_, rfl⟩
    have k5 : Kb 0 wo W5 := by rw [hW5]; exact kb_alloc _ _ _
    have z5 : W5.heap.size = wo.heap.size + 1 := by rw [hW5]; exact World.size_alloc _ _
    have o5 : OwnR W5 (.slice (some ⟨wo.heap.size, 0, none⟩) 64 64) wo.heap.size 64 (ub (fun j => if j < 0 then A (i * 64 + j) else 0)) := own_made wo W5 hW5
    have HY0 : Hid (OwnR W5 (.slice (some ⟨wo.heap.size, 0, none⟩) 64 64) wo.heap.size 64 (ub (fun j => if j < 0 then A (i * 64 + j) else 0)) ∧ Kb 0 wo W5) := (⟨o5, k5⟩ : _ ∧ _)
    have HXX : Hid (BRd B0 wo (.slice pl i cl) i F V ∧ Kb 0 w3 wo ∧ B0 ≤ wo.heap.size) := (⟨hX, hkb, hBr⟩ : _ ∧ _)
    have HRW : Hid (∀ W, Kb 0 wo W → ∃ a : Addr, pa = some a ∧ n ≤ ca ∧ ∀ j, j < n → W.cell? (a.add j) = some (.int .u8 (A j))) := (fun W k => by
      obtain ⟨pa', ca', e, h2⟩ := (show _ ∧ _ from HIM).1 W (((show _ ∧ _ from HK3).1.trans hkb).trans k)
      injection e with e1 e2 e3
      obtain ⟨a, q1, q2, q3⟩ := h2 hn0
      exact ⟨a, by rw [e1]; exact q1, by omega, q3⟩ : ∀ W, _)
    obtain ⟨a, rfl, hca, -⟩ := (show ∀ W, Kb 0 wo W → _ from HRW) wo (Kb.refl _ _)
    have HW5 : Hid (W5 = wo.alloc (.cells M64 5)) := hW5
    obtain ⟨RB, hRB⟩ : ∃ RB, RB = wo.heap.size := ⟨_, rfl⟩
    have HRB : Hid (RB = wo.heap.size) := hRB
    rw [← hRB] at HY0
    clear hX hkb hBr k5 z5 o5 hW5 hil hRB h9 hi
    go_upto_region 12 with fail
    rw [← (show W5 = _ from HW5), ← (show RB = _ from HRB)]
    clear HW5 hmk2
    go_wp2_with fail
    go_loopw [10] (fun s10 wq => ∃ t b9 : Nat, s10 = .int .i64 (b9 : Int) ∧ t ≤ 64 ∧ Hid (b9 = a9 + t ∧ a9 + t ≤ n ∧ OwnR wq (.slice (some ⟨RB, 0, none⟩) 64 64) RB 64 (ub (fun j => if j < t then A (i * 64 + j) else 0)) ∧ Kb 0 wo wq)) (fun s10 _ => 16384 - (intOf s10).toNat)
    case atStart => exact ⟨0, a9, rfl, Nat.zero_le _, ⟨rfl, by have := (show a9 = _ from H9); omega, HY0⟩⟩
    case round =>
      clear HY0
      obtain ⟨t, b9, rfl, htl, HY⟩ := hrel
      obtain ⟨hb9, htn, oq, kq⟩ := (show _ ∧ _ ∧ _ ∧ _ from HY)
      have h9 := (show a9 = _ from H9)
      clear HY
      by_cases hlt : i * 64 + t < n ∧ t < 64
      case neg =>
        have oq2 : OwnR wr (.slice (some ⟨RB, 0, none⟩) 64 64) RB 64 (ub (pcA A n i)) := ⟨oq.sl, fun j hj => by
          rw [oq.cell j hj]
          dsimp only [ub, pcA]
          by_cases q : j < t
          · rw [if_pos q, if_pos (by omega)]
          · rw [if_neg q, if_neg (by omega)], oq.fz⟩
        obtain ⟨hX, hkb, hBr⟩ := (show _ ∧ _ ∧ _ from HXX)
        have eF : F i = ⟨false, ((2 + i : Nat) : Int), 64, pcA A n i⟩ := by rw [show F = _ from HF]; exact opF_p hi2
        have hRB := (show RB = _ from HRB)
        have hrbl : RB < wr.heap.size := lt_of_cell' (oq.cell 0 (by omega))
        have hox : RdB wo.heap.size wr (.slice (some ⟨RB, 0, none⟩) 64 64) (F i).c (F i).A none := by
          rw [eF]
          exact ⟨_, _, rfl, fun _ => ⟨_, rfl, Nat.le_refl _, by show _ ≤ RB; omega, hrbl, fun q => (by cases q), fun j hj => by rw [addr0]; exact oq2.cell j hj⟩⟩
        obtain ⟨PC, hPC⟩ : ∃ PC, PC = cel 3 F V (i) := ⟨_, rfl⟩
        have HOW : Hid (wr.ownsRow B0 96 3 (.slice pl (i) cl) (i) PC ∧ B0 ≤ wr.heap.size) := (⟨by rw [hPC]; exact (hX.keep kq.size (fun q _ h2 => kq.block q (Nat.zero_le _) h2)).ro, Nat.le_trans hBr kq.size⟩ : _ ∧ _)
        have HPU : Hid (∀ (ob : Obj) (W8 : World) (g cap : Nat), W8.ownsRow B0 96 3 (.slice (some ⟨g, 0, none⟩) (i + 1) cap) (i + 1) (PC ++ [.bool false, .int .i64 ((2 + i : Nat) : Int), .slice (some ⟨RB, 0, none⟩) 64 64]) → (wr.alloc ob).grownBy W8 (Value.slice pl (i) cl).ownBlock → ((Value.slice pl (i) cl).ownBlock = some g ∨ g = wr.heap.size + 1) → ∃ V', BRd B0 W8 (.slice (some ⟨g, 0, none⟩) (i + 1) cap) (i + 1) F V' ∧ Kb 0 w3 W8) := (fun ob W8 g cap h8 g8 ha => by
          have st := hX.step hBr kq hox (ob := ob) (by rw [← hPC, eF]; exact h8) g8 ha
          have k36 := hkb.trans kq
          have hb0 := (show B0 = _ from HB0)
          have z36 := k36.size
          refine ⟨_, st, ⟨by rw [g8.os]; exact k36.os, by rw [g8.output]; exact k36.output, by have := g8.size; rw [World.size_alloc] at this; omega, fun q h1 h2 => ?_⟩⟩
          exact ((g8.block q (by rw [World.size_alloc]; omega) (fun e => by have := (hX.ro.lt q e.symm).1; omega)).trans ((kb_alloc 0 _ ob).block q (Nat.zero_le _) (by omega))).trans (k36.block q h1 h2) : ∀ (ob : Obj) (W8 : World) (g cap : Nat), _)
        have hexit : ¬ (b9 : Int) < (n : Int) ∨ ((b9 : Int) < (n : Int) ∧ ¬ (b9 : Int) < (a9 : Int) + 64) := by omega
        clear hX hkb hBr oq oq2 kq eF hRB hrbl hox hPC HXX HRB HRW hb9 htn h9 hlt htl
        rcases hexit with hx | hx
        · skip
          go_wp2_with fail
          refine (sp_first0 wr).mono ?_
          rintro e wq2 ⟨rfl, hwq⟩
          rw [hwq]
          clear hwq
          go_wp2_with (refine wpList_append_lies _ (by rfl) (.tmp 53) (.tmp 61) 56 (by rfl) B0 96 i1 (.agg #[.bool false, .int .i64 0, .slice none 0 0]) 3 40 Try.underlying56 HI1 hz0 hz1 hz2 rfl (by decide) (.slice pl (i) cl) (i) PC (by rfl) ((show _ ∧ _ from HOW).1.alloc _) ⟨wr.heap.size, 0, none⟩ 1 1 [.bool false, .int .i64 ((2 + i : Nat) : Int), .slice (some ⟨RB, 0, none⟩) 64 64] (by rfl) (by rfl) (qr_cells wr #[.bool false, .int .i64 ((2 + i : Nat) : Int), .slice (some ⟨RB, 0, none⟩) 64 64] 96 [.bool false, .int .i64 ((2 + i : Nat) : Int), .slice (some ⟨RB, 0, none⟩) 64 64] rfl) (by intro y hy; simp only [List.mem_cons, List.not_mem_nil, or_false] at hy; rcases hy with rfl | rfl | rfl <;> rfl) (by decide) (by unfold maxLen; omega) (by omega) (by rw [World.size_alloc]; have := (show _ ∧ _ from HOW).2; omega) (wr.heap.size + 1) (World.size_alloc _ _) ?_; intro g' cap' w8 hown1 hgrow1 hat hlt; have HN := (show ∀ (ob : Obj) (W8 : World) (g cap : Nat), _ from HPU) _ w8 g' cap' hown1 hgrow1 hat; clear hown1 hgrow1 hat hlt)
          go_roundw
          case rel => obtain ⟨V', hb, hk⟩ := HN; exact ⟨i + 1, a9 + 64, _, V', rfl, by go_num, by omega, ⟨hb, hk, by have := (show a9 = _ from H9); omega⟩⟩
          case measure => simp [intOf]; omega
        · obtain ⟨hx1, hx2⟩ := hx
          go_wp2_with fail
          refine (sp_first0 wr).mono ?_
          rintro e wq2 ⟨rfl, hwq⟩
          rw [hwq]
          clear hwq
          go_wp2_with (refine wpList_append_lies _ (by rfl) (.tmp 53) (.tmp 61) 56 (by rfl) B0 96 i1 (.agg #[.bool false, .int .i64 0, .slice none 0 0]) 3 40 Try.underlying56 HI1 hz0 hz1 hz2 rfl (by decide) (.slice pl (i) cl) (i) PC (by rfl) ((show _ ∧ _ from HOW).1.alloc _) ⟨wr.heap.size, 0, none⟩ 1 1 [.bool false, .int .i64 ((2 + i : Nat) : Int), .slice (some ⟨RB, 0, none⟩) 64 64] (by rfl) (by rfl) (qr_cells wr #[.bool false, .int .i64 ((2 + i : Nat) : Int), .slice (some ⟨RB, 0, none⟩) 64 64] 96 [.bool false, .int .i64 ((2 + i : Nat) : Int), .slice (some ⟨RB, 0, none⟩) 64 64] rfl) (by intro y hy; simp only [List.mem_cons, List.not_mem_nil, or_false] at hy; rcases hy with rfl | rfl | rfl <;> rfl) (by decide) (by unfold maxLen; omega) (by omega) (by rw [World.size_alloc]; have := (show _ ∧ _ from HOW).2; omega) (wr.heap.size + 1) (World.size_alloc _ _) ?_; intro g' cap' w8 hown1 hgrow1 hat hlt; have HN := (show ∀ (ob : Obj) (W8 : World) (g cap : Nat), _ from HPU) _ w8 g' cap' hown1 hgrow1 hat; clear hown1 hgrow1 hat hlt)
          go_roundw
          case rel => obtain ⟨V', hb, hk⟩ := HN; exact ⟨i + 1, a9 + 64, _, V', rfl, by go_num, by omega, ⟨hb, hk, by have := (show a9 = _ from H9); omega⟩⟩
          case measure => simp [intOf]; omega
      obtain ⟨hlt1, hlt2⟩ := hlt
      have hl1 : (b9 : Int) < (n : Int) := by omega
      have hl2 : (b9 : Int) < (a9 : Int) + 64 := by omega
      have hl3 : (b9 : Int) - (a9 : Int) = (t : Int) := by omega
      have hl4 : (t : Int) < 64 := by omega
      obtain ⟨a', ea, hca', hrow⟩ := (show ∀ W, Kb 0 wo W → _ from HRW) wr kq
      injection ea with ea
      subst ea
      have d0 : wr.cell? (a.add b9) = some (.int .u8 (A (i * 64 + t))) := by rw [hb9, h9]; exact hrow (i * 64 + t) hlt1
      have c0 := oq.cell t hlt2
      have f0 := oq.fz (by omega) t
      have hRB := (show RB = _ from HRB)
      have HN : Hid (b9 + 1 = a9 + (t + 1) ∧ a9 + (t + 1) ≤ n ∧ OwnR (wr.setCell ⟨RB, t, none⟩ (.int .u8 (A (i * 64 + t)))) (.slice (some ⟨RB, 0, none⟩) 64 64) RB 64 (ub (fun j => if j < t + 1 then A (i * 64 + j) else 0)) ∧ Kb 0 wo (wr.setCell ⟨RB, t, none⟩ (.int .u8 (A (i * 64 + t))))) := (⟨by omega, by omega, ⟨oq.sl, fun j hj => by
        dsimp only [ub]
        by_cases q : j = t
        · subst q
          rw [set_eq _ _ _ _ _ c0, if_pos (by omega)]
        · rw [set_ne _ _ _ _ _ q, oq.cell j hj]
          dsimp only [ub]
          by_cases r : j < t
          · rw [if_pos r, if_pos (by omega)]
          · rw [if_neg r, if_neg (by omega)], fun h j => by rw [World.frozen?_setCell]; exact oq.fz h j⟩, kq.setCell _ (.inr (by show _ ≤ RB; omega)) _⟩ : _ ∧ _)
      clear hrow hRB oq kq hb9 htn h9 hlt1 hlt2
      go_wp2_with fail
      go_roundw
      case rel => exact ⟨t + 1, b9 + 1, by go_num, by omega, HN⟩
      case measure => simp [intOf]; omega
end Go.Proofs.Ytaggciimacanbaa.Fo
