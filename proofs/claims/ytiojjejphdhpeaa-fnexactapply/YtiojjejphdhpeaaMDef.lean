import Derived.Test.YtiojjejphdhpeaaMDed
import Derived.Test.YtiojjejphdhpeaaMDai
namespace Go.Proofs.Ytiojjejphdhpeaa.Fo
open Go.ChangeShapes Go.WideShapes Go.ChangeAt Go.RowKit
set_option linter.unusedVariables false
set_option maxRecDepth 100000
set_option linter.unusedSimpArgs false
set_option maxHeartbeats 8000000 in
theorem sp_all (n : Nat) (hn : n ≤ 1048576) (w : World) : Calls Try.prog 112 #[.int .i64 (n : Int)] w fun e w' => ∃ v, e = .returned v ∧ RowV w' v n (fun _ => .bool true) ∧ Kb 0 w w' := by
  have hnI : (n : Int) ≤ 1048576 := by omega
  have hmk := run_make (P := Try.prog) w 39 4 Try.t4 (.bool false) Try.underlying39 (by kernel_rfl) (by kernel_rfl) .i64 .i64 (n : Int) (n : Int) (by omega) (Int.le_refl _) (by show (1 : Int) * (n : Int) ≤ _; omega) (by omega)
  rw [Int.toNat_natCast] at hmk
  obtain ⟨w1, hw1⟩ : ∃ w1, w1 = w.alloc (.cells (madeCells (.bool false : Value).cells (n * 1)) 4) := ⟨_, rfl⟩
  have hmk2 := hmk
  rw [show n * Try.t4.size = n * 1 from rfl, ← hw1] at hmk2
  clear hmk
  have hk1 : Kb 0 w w1 := by rw [hw1]; exact kb_alloc _ _ _
  have c1 : ∀ j, j < n → w1.cell? ⟨w.heap.size, j, none⟩ = some (.bool false) := by intro j hj; rw [hw1]; exact made_cell w _ 4 n rfl j hj
  have f1 : ∀ j, w1.frozen? ⟨w.heap.size, j, none⟩ = false := by intro j; rw [hw1]; exact frozen_of (alloc_new _ _ _)
  have HI0 : Hid ((∀ j, j < n → w1.cell? ⟨w.heap.size, j, none⟩ = some (.bool (decide (j < 0)))) ∧ (∀ j, w1.frozen? ⟨w.heap.size, j, none⟩ = false) ∧ Kb 0 w w1) := (⟨fun j hj => by rw [c1 j hj]; simp, f1, hk1⟩ : _ ∧ _)
  obtain ⟨G, hG⟩ : ∃ G, G = w.heap.size := ⟨_, rfl⟩
  rw [← hG] at hmk2 HI0
  have HG : Hid (G = w.heap.size) := hG
  clear hw1 hk1 c1 f1 hn hG
  go_enter Try.func112, Try.ntmps112
  go_wp2_with fail
  go_loopw [9] (fun s9 wr => ∃ i : Nat, s9 = .int .i64 (i : Int) ∧ i ≤ n ∧ Hid ((∀ j, j < n → wr.cell? ⟨G, j, none⟩ = some (.bool (decide (j < i)))) ∧ (∀ j, wr.frozen? ⟨G, j, none⟩ = false) ∧ Kb 0 w wr)) (fun s9 _ => n - (intOf s9).toNat)
  case atStart => exact ⟨0, rfl, Nat.zero_le _, HI0⟩
  case round =>
    clear HI0 hmk2
    obtain ⟨i, rfl, hil, HX⟩ := hrel
    obtain ⟨hc, hf, hk⟩ := (show _ ∧ _ ∧ _ from HX)
    clear HX
    by_cases hi : i < n
    case neg =>
      obtain rfl : i = n := by omega
      have HE : Hid (RowV wr (.slice (some ⟨G, 0, none⟩) i i) i (fun _ => .bool true) ∧ Kb 0 w wr) := (⟨⟨_, _, rfl, fun _ => ⟨⟨G, 0, none⟩, rfl, Nat.le_refl _, fun j hj => by rw [addr0, hc j hj]; simp [hj]⟩⟩, hk⟩ : _ ∧ _)
      clear hc hf hk HG
      go_wp2_with fail
      go_ret
      exact ⟨_, rfl, HE⟩
    have hiI : (i : Int) < (n : Int) := by omega
    have c0 := hc i hi
    have f0 := hf i
    have HN : Hid ((∀ j, j < n → (wr.setCell ⟨G, i, none⟩ (.bool true)).cell? ⟨G, j, none⟩ = some (.bool (decide (j < i + 1)))) ∧ (∀ j, (wr.setCell ⟨G, i, none⟩ (.bool true)).frozen? ⟨G, j, none⟩ = false) ∧ Kb 0 w (wr.setCell ⟨G, i, none⟩ (.bool true))) := (⟨fun j hj => by
        by_cases e : j = i
        · subst e
          rw [set_eq _ _ _ _ _ c0]
          simp
        · rw [set_ne _ _ _ _ _ e, hc j hj]
          congr 2
          exact decide_eq_decide.2 (by omega), fun j => by rw [World.frozen?_setCell]; exact hf j, hk.setCell _ (.inr (by show _ ≤ G; have := (show G = w.heap.size from HG); omega)) _⟩ : _ ∧ _)
    clear hc hf hk HG
    go_wp2_with fail
    go_roundw
    case rel => exact ⟨i + 1, by go_num, by omega, HN⟩
    case measure => simp [intOf]; omega
set_option maxHeartbeats 4000000 in
theorem im_syncing (w : World) : Calls Try.prog 58 #[] w fun e w' => e = .returned (.func (.func 88) #[] #[]) ∧ w' = w := by
  go_enter Try.func58, Try.ntmps58
  go_wp2_with fail
  go_ret
  exact ⟨rfl, rfl⟩
set_option maxHeartbeats 4000000 in
theorem im_sync1 {w0 : World} {dv : Nat} {P : Nat → Nat → Int} {m : Nat} {Q : Nat → Ed} {vw : Value} (w : World) (h : Dr w0 dv P m Q vw w) (hm : m ≤ 200) (hq : ∀ j, j < m → 0 ≤ (Q j).b ∧ (Q j).b < 258) (Q' : Nat → Ed) :
    Calls Try.prog 88 #[.pointer (some ⟨dv, 0, none⟩)] w fun e w' => e = .returned (.bool true) ∧ Dr w0 dv (stl P Q m) 0 Q' (.slice none 0 0) w' := by
  have HS := im_sync w h hm hq Q'
  clear h hm hq
  go_enter Try.func88, Try.ntmps88
  go_wp2_with fail
  refine HS.mono ?_
  rintro e w1 ⟨rfl, hD⟩
  have HD : Hid (Dr w0 dv (stl P Q m) 0 Q' (.slice none 0 0) w1) := hD
  clear HS hD
  go_wp2_with fail
  go_ret
  exact ⟨rfl, HD⟩
end Go.Proofs.Ytiojjejphdhpeaa.Fo

namespace Go.Proofs.Ytiojjejphdhpeaa.Fo
open Go.ChangeShapes Go.WideShapes Go.ChangeAt Go.RowKit
set_option linter.unusedVariables false
set_option maxRecDepth 100000
set_option linter.unusedSimpArgs false
set_option maxHeartbeats 8000000 in
theorem sp_sync_no {v1 v2 : Value} {D : Dd} (w : World) (ha : RowD 0 w v1 v2 D) (hd : BdD D) (hno : ¬ Dok D) :
    Calls Try.prog 106 #[.agg #[v1, v2]] w fun e w' => e = .returned (.agg #[.slice none 0 0, .slice none 0 0]) ∧ Kb 0 w w' := by
  obtain ⟨⟨p1, c1, rfl, -⟩, ⟨p2, c2, rfl, -⟩⟩ := id ha
  obtain ⟨w2, hw2⟩ : ∃ w2, w2 = (w.alloc (.cells #[.slice p1 D.n c1, .slice p2 D.m c2] 30)).alloc (.cells #[.slice none 0 0, .slice none 0 0] 30) := ⟨_, rfl⟩
  obtain ⟨b0, b1, z2, k2⟩ := two_newD w _ _ _ _ w2 hw2
  have u0 : w2.cell? ⟨w.heap.size, 0, none⟩ = some (.slice p1 D.n c1) := cell_of b0 rfl
  have u1 : w2.cell? ⟨w.heap.size, 1, none⟩ = some (.slice p2 D.m c2) := cell_of b0 rfl
  have HB : Hid (Kb 0 w w2 ∧ w2.heap[w.heap.size]? = some (.cells #[.slice p1 D.n c1, .slice p2 D.m c2] 30 (0, 0)) ∧ w2.heap[w.heap.size + 1]? = some (.cells #[.slice none 0 0, .slice none 0 0] 30 (0, 0)) ∧ w2.heap.size = w.heap.size + 2) := (⟨k2, b0, b1, z2⟩ : _ ∧ _)
  have HW2 : Hid (w2 = (w.alloc (.cells #[.slice p1 D.n c1, .slice p2 D.m c2] 30)).alloc (.cells #[.slice none 0 0, .slice none 0 0] 30)) := hw2
  have HI := (by have := sp_dok w2 (ha.keep k2) hd; rw [dc_f hno] at this; exact this : Calls Try.prog 43 _ w2 fun e w' => e = .returned (.bool false) ∧ Kb 0 w2 w')
  clear hw2 b0 b1 z2 k2 ha hd hno
  go_enter Try.func106, Try.ntmps106
  go_upto_region 1 with fail
  rw [← (show w2 = _ from HW2)]
  clear HW2
  go_wp2_with fail
  refine HI.mono ?_
  rintro e w3 ⟨rfl, k3⟩
  obtain ⟨kw2, b0, b1, z2⟩ := (show _ ∧ _ ∧ _ ∧ _ from HB)
  have r := (k3.block (w.heap.size + 1) (Nat.zero_le _) (by omega)).trans b1
  have a0 : w3.cell? ⟨w.heap.size + 1, 0, none⟩ = some (.slice none 0 0) := cell_of r rfl
  have a1 : w3.cell? ⟨w.heap.size + 1, 1, none⟩ = some (.slice none 0 0) := cell_of r rfl
  have fy : ∀ j, w3.frozen? ⟨w.heap.size + 1, j, none⟩ = false := fun j => frozen_of r
  obtain ⟨WF, hWF⟩ : ∃ WF, WF = (w3.setCell ⟨w.heap.size + 1, 0, none⟩ (.slice none 0 0)).setCell ⟨w.heap.size + 1, 1, none⟩ (.slice none 0 0) := ⟨_, rfl⟩
  have zF : WF.heap.size = w3.heap.size := by rw [hWF]; simp
  have bF : ∀ q, q ≠ w.heap.size + 1 → WF.heap[q]? = w3.heap[q]? := fun q hq => by
    rw [hWF, Below.heap_setCell _ _ _ _ (show q ≠ w.heap.size + 1 from hq), Below.heap_setCell _ _ _ _ (show q ≠ w.heap.size + 1 from hq)]
  have rF : WF.heap[w.heap.size + 1]? = some (.cells #[.slice none 0 0, .slice none 0 0] 30 (0, 0)) := by
    rw [hWF]
    exact set_known _ (set_known _ r)
  have f3 : WF.cell? ⟨w.heap.size + 1, 0, none⟩ = some (.slice none 0 0) := cell_of rF rfl
  have f4 : WF.cell? ⟨w.heap.size + 1, 1, none⟩ = some (.slice none 0 0) := cell_of rF rfl
  have kF : Kb 0 w WF := by rw [hWF]; exact ((kw2.trans k3).setCell _ (.inr (by show _ ≤ w.heap.size + 1; omega)) _).setCell _ (.inr (by show _ ≤ w.heap.size + 1; omega)) _
  have HF : Hid (Kb 0 w WF) := kF
  have HWF : Hid (WF = _) := hWF
  clear HI u0 u1 HB kw2 b0 b1 z2 r k3 zF bF rF kF hWF
  go_wp2_with fail
  rw [← (show WF = _ from HWF)]
  clear HWF
  refine bodyPost_ret (by simp [results, Try.results106, go_sem, f3, f4]; rfl) rfl ?_
  exact ⟨rfl, HF⟩
set_option maxHeartbeats 8000000 in
theorem sp_sync_yes {v1 v2 : Value} {D : Dd} (w : World) (ha : RowD 0 w v1 v2 D) (hd : BdD D) (hok : Dok D) :
    Calls Try.prog 106 #[.agg #[v1, v2]] w fun e w' => ∃ u1 u2, e = .returned (.agg #[u1, u2]) ∧ OwD w.heap.size w'.heap.size w' u1 u2 ⟨258, pE (stl (dpg D) D.Q D.m), 0, fun _ => zE⟩ ∧ Kb 0 w w' := by
  obtain ⟨⟨p1, c1, rfl, -⟩, ⟨p2, c2, rfl, -⟩⟩ := id ha
  obtain ⟨w2, hw2⟩ : ∃ w2, w2 = (w.alloc (.cells #[.slice p1 D.n c1, .slice p2 D.m c2] 30)).alloc (.cells #[.slice none 0 0, .slice none 0 0] 30) := ⟨_, rfl⟩
  obtain ⟨b0, b1, z2, k2⟩ := two_newD w _ _ _ _ w2 hw2
  have u0 : w2.cell? ⟨w.heap.size, 0, none⟩ = some (.slice p1 D.n c1) := cell_of b0 rfl
  have u1 : w2.cell? ⟨w.heap.size, 1, none⟩ = some (.slice p2 D.m c2) := cell_of b0 rfl
  have HB : Hid (Kb 0 w w2 ∧ w2.heap[w.heap.size]? = some (.cells #[.slice p1 D.n c1, .slice p2 D.m c2] 30 (0, 0)) ∧ w2.heap[w.heap.size + 1]? = some (.cells #[.slice none 0 0, .slice none 0 0] 30 (0, 0)) ∧ w2.heap.size = w.heap.size + 2) := (⟨k2, b0, b1, z2⟩ : _ ∧ _)
  have HW2 : Hid (w2 = (w.alloc (.cells #[.slice p1 D.n c1, .slice p2 D.m c2] 30)).alloc (.cells #[.slice none 0 0, .slice none 0 0] 30)) := hw2
  have HI : Calls Try.prog 43 #[.agg #[.slice p1 D.n c1, .slice p2 D.m c2]] w2 fun e w' => e = .returned (.bool true) ∧ Kb 0 w2 w' := by
    have := sp_dok w2 (ha.keep k2) hd
    rw [dc_t hok] at this
    exact this
  have hmI : (D.m : Int) ≤ 200 := by have := hok.2.1; omega
  have HAL : Hid (∀ W, Calls Try.prog 112 #[.int .i64 (D.m : Int)] W fun e w' => ∃ v, e = .returned v ∧ RowV w' v D.m (fun _ => .bool true) ∧ Kb 0 W w') := (fun W => sp_all D.m (by omega) W : ∀ W, _)
  have HSR : Hid (∀ w3, Kb 0 w2 w3 → ∀ W vk, Kb 0 w3 W → RowV W vk D.m (fun _ => .bool true) → Calls Try.prog 56 #[.agg #[.slice p1 D.n c1, .slice p2 D.m c2], vk] W fun e w' => ∃ u1 u2, e = .returned (.agg #[u1, u2]) ∧ OwD W.heap.size w'.heap.size w' u1 u2 ⟨258, pE (stl (dpg D) D.Q D.m), 0, fun _ => zE⟩ ∧ Kb 0 W w') := (fun w3 k3 W vk kW hr => by
    have hra := ha.keep ((k2.trans k3).trans kW)
    obtain ⟨n, Bf, m, Qf⟩ := D
    obtain rfl : n = 258 := hok.1
    have h := sp_settle (fun _ => true) W hra hd hok hr (by have := hok.2.1; dsimp only at this ⊢; omega) (fun j hj => by simp; exact hj) (fun _ => zE)
    rw [stk_all _ _ _ _ (fun _ _ => rfl)] at h
    exact h : ∀ w3, _)
  clear hw2 b0 b1 z2 k2 ha hd hok
  go_enter Try.func106, Try.ntmps106
  go_upto_region 1 with fail
  rw [← (show w2 = _ from HW2)]
  clear HW2
  go_wp2_with fail
  refine HI.mono ?_
  rintro e w3 ⟨rfl, k3⟩
  have HK3 : Hid (Kb 0 w2 w3) := k3
  have HSE : Hid (∀ W vk, Kb 0 w3 W → RowV W vk D.m (fun _ => .bool true) → Calls Try.prog 56 #[.agg #[.slice p1 D.n c1, .slice p2 D.m c2], vk] W fun e w' => ∃ u1 u2, e = .returned (.agg #[u1, u2]) ∧ OwD W.heap.size w'.heap.size w' u1 u2 ⟨258, pE (stl (dpg D) D.Q D.m), 0, fun _ => zE⟩ ∧ Kb 0 W w') := (show ∀ w3, Kb 0 w2 w3 → _ from HSR) w3 k3
  have hSS : (fun W' : World => W'.cell? ⟨w.heap.size, 0, none⟩ = some (.slice p1 D.n c1) ∧ W'.cell? ⟨w.heap.size, 1, none⟩ = some (.slice p2 D.m c2)) w3.drew := ⟨k3.cell u0, k3.cell u1⟩
  have HSS : Hid ((fun W' : World => W'.cell? ⟨w.heap.size, 0, none⟩ = some (.slice p1 D.n c1) ∧ W'.cell? ⟨w.heap.size, 1, none⟩ = some (.slice p2 D.m c2)) w3.drew) := hSS
  clear HI u0 u1 HSR k3 hSS
  go_upto_region 3 with fail
  refine AnyL.region (S := fun W' => W'.cell? ⟨w.heap.size, 0, none⟩ = some (.slice p1 D.n c1) ∧ W'.cell? ⟨w.heap.size, 1, none⟩ = some (.slice p2 D.m c2)) (z := 6) (by kernel_rfl) ?_
  have hS0 := (show (fun W' : World => W'.cell? ⟨w.heap.size, 0, none⟩ = some (.slice p1 D.n c1) ∧ W'.cell? ⟨w.heap.size, 1, none⟩ = some (.slice p2 D.m c2)) w3.drew from HSS)
  have HKD : Hid (Kb 0 w3 w3.drew) := (Kb.drewN (Kb.refl _ _) 1 : Kb 0 w3 w3.drew)
  obtain ⟨W0, hW0⟩ : ∃ W0, W0 = w3.drew := ⟨_, rfl⟩
  rw [← hW0] at HKD hS0 ⊢
  clear hW0 HSS
  refine AnyL.takeAt 0 (.agg #[.slice p1 D.n c1, .slice p2 D.m c2]) rfl (by kernel_rfl) (by kernel_rfl) (by kernel_rfl) (by kernel_rfl) (fun _ _ _ h => h) rfl hS0 (by intro W hW; first | go_simp | (obtain ⟨i0, i1⟩ := hW; go_simp)) ?_
  try simp only [Act.put, List.setIfInBounds_toArray, List.set_cons_zero, List.set_cons_succ]
  refine AnyL.takeAt 1 (.pointer (some ⟨w.heap.size, 1, none⟩)) rfl (by kernel_rfl) (by kernel_rfl) (by kernel_rfl) (by kernel_rfl) (fun _ _ _ h => h) rfl hS0 (by intro W hW; first | go_simp | (obtain ⟨i0, i1⟩ := hW; go_simp)) ?_
  try simp only [Act.put, List.setIfInBounds_toArray, List.set_cons_zero, List.set_cons_succ]
  refine AnyL.takeAt 2 (.slice p2 D.m c2) rfl (by kernel_rfl) (by kernel_rfl) (by kernel_rfl) (by kernel_rfl) (fun _ _ _ h => h) rfl hS0 (by intro W hW; first | go_simp | (obtain ⟨i0, i1⟩ := hW; go_simp)) ?_
  try simp only [Act.put, List.setIfInBounds_toArray, List.set_cons_zero, List.set_cons_succ]
  refine AnyL.takeAt 3 (.int .i64 (D.m : Int)) rfl (by kernel_rfl) (by kernel_rfl) (by kernel_rfl) (by kernel_rfl) (fun _ _ _ h => h) rfl hS0 (by intro W hW; first | go_simp | (obtain ⟨i0, i1⟩ := hW; go_simp)) ?_
  try simp only [Act.put, List.setIfInBounds_toArray, List.set_cons_zero, List.set_cons_succ]
  refine AnyL.oneAt 4 rfl (by kernel_rfl) rfl ?_
  intro K hK
  go_simp
  refine ((show ∀ W, _ from HAL) W0).mono ?_
  rintro e W4 ⟨vk, rfl, rk, k4⟩
  have k34 := (show Kb 0 w3 W0 from HKD).trans k4
  obtain ⟨pk, ck, rfl, -⟩ := id rk
  have HS4 := (show ∀ W vk, Kb 0 w3 W → _ from HSE) W4 _ k34 rk
  have hS4 : (fun W' : World => W'.cell? ⟨w.heap.size, 0, none⟩ = some (.slice p1 D.n c1) ∧ W'.cell? ⟨w.heap.size, 1, none⟩ = some (.slice p2 D.m c2)) W4 := ⟨k4.cell hS0.1, k4.cell hS0.2⟩
  have HK4 : Hid (Kb 0 w3 W4) := k34
  clear HAL HSE rk k4 k34 hS0 HKD
  refine hK.out _ _ (fun _ => hS4) ?_
  clear hK K
  try simp only [Act.put, List.setIfInBounds_toArray, List.set_cons_zero, List.set_cons_succ]
  refine AnyL.oneAt 5 rfl (by kernel_rfl) rfl ?_
  intro K hK
  go_simp
  refine HS4.mono ?_
  rintro e W5 ⟨y1, y2, rfl, o5, k5⟩
  obtain ⟨s1, e1, s2, e2, rfl, rfl⟩ := o5.shape
  have hS5 : (fun W' : World => W'.cell? ⟨w.heap.size, 0, none⟩ = some (.slice p1 D.n c1) ∧ W'.cell? ⟨w.heap.size, 1, none⟩ = some (.slice p2 D.m c2)) W5 := ⟨k5.cell hS4.1, k5.cell hS4.2⟩
  have k35 := (show Kb 0 w3 W4 from HK4).trans k5
  obtain ⟨kw2, b0, b1, z2⟩ := (show _ ∧ _ ∧ _ ∧ _ from HB)
  have k25 := (show Kb 0 w2 w3 from HK3).trans k35
  dsimp only at o5 ⊢
  have r := (k25.block (w.heap.size + 1) (Nat.zero_le _) (by omega)).trans b1
  have a0 : W5.cell? ⟨w.heap.size + 1, 0, none⟩ = some (.slice none 0 0) := cell_of r rfl
  have a1 : W5.cell? ⟨w.heap.size + 1, 1, none⟩ = some (.slice none 0 0) := cell_of r rfl
  have fy : ∀ j, W5.frozen? ⟨w.heap.size + 1, j, none⟩ = false := fun j => frozen_of r
  obtain ⟨WF, hWF⟩ : ∃ WF, WF = (W5.setCell ⟨w.heap.size + 1, 0, none⟩ (.slice s1 258 e1)).setCell ⟨w.heap.size + 1, 1, none⟩ (.slice s2 0 e2) := ⟨_, rfl⟩
  have zF : WF.heap.size = W5.heap.size := by rw [hWF]; simp
  have bF : ∀ q, q ≠ w.heap.size + 1 → WF.heap[q]? = W5.heap[q]? := fun q hq => by
    rw [hWF, Below.heap_setCell _ _ _ _ (show q ≠ w.heap.size + 1 from hq), Below.heap_setCell _ _ _ _ (show q ≠ w.heap.size + 1 from hq)]
  have rF : WF.heap[w.heap.size + 1]? = some (.cells #[.slice s1 258 e1, .slice s2 0 e2] 30 (0, 0)) := by
    rw [hWF]
    exact set_known _ (set_known _ r)
  have f3 : WF.cell? ⟨w.heap.size + 1, 0, none⟩ = some (.slice s1 258 e1) := cell_of rF rfl
  have f4 : WF.cell? ⟨w.heap.size + 1, 1, none⟩ = some (.slice s2 0 e2) := cell_of rF rfl
  have kF : Kb 0 w WF := by rw [hWF]; exact ((kw2.trans k25).setCell _ (.inr (by show _ ≤ w.heap.size + 1; omega)) _).setCell _ (.inr (by show _ ≤ w.heap.size + 1; omega)) _
  have oF : OwD w.heap.size WF.heap.size WF (.slice s1 258 e1) (.slice s2 0 e2) ⟨258, pE (stl (dpg D) D.Q D.m), 0, fun _ => zE⟩ := by
    rw [zF]
    have := (show Kb 0 w3 W4 from HK4).size
    have := (show Kb 0 w2 w3 from HK3).size
    exact (o5.block (fun q h1 h2 => bF q (by omega))).wide (by omega) (Nat.le_refl _)
  have HF : Hid (OwD w.heap.size WF.heap.size WF (.slice s1 258 e1) (.slice s2 0 e2) ⟨258, pE (stl (dpg D) D.Q D.m), 0, fun _ => zE⟩ ∧ Kb 0 w WF) := (⟨oF, kF⟩ : _ ∧ _)
  have HWF : Hid (WF = _) := hWF
  clear HS4 o5 k5 hS4 k35 kw2 b0 b1 z2 k25 r zF bF rF hWF oF kF
  refine hK.out _ _ (fun _ => hS5) ?_
  clear hK K hS5
  try simp only [Act.put, List.setIfInBounds_toArray, List.set_cons_zero, List.set_cons_succ]
  refine AnyL.oneAt 6 rfl (by kernel_rfl) rfl ?_
  intro K hK
  go_simp
  rw [← (show WF = _ from HWF)]
  clear HWF
  refine hK.out _ _ (fun h => absurd rfl h) ?_
  clear hK K
  try simp only [Act.put, List.setIfInBounds_toArray, List.set_cons_zero, List.set_cons_succ]
  refine AnyL.done (by kernel_rfl) ?_
  go_wp2_with fail
  refine bodyPost_ret (by simp [results, Try.results106, go_sem, f3, f4]; rfl) rfl ?_
  exact ⟨_, _, rfl, HF⟩
end Go.Proofs.Ytiojjejphdhpeaa.Fo
