import Derived.Test.YtgocahalfanpjaaDoorTrb
import Derived.Test.YtgocahalfanpjaaDoorWtc
namespace Go.Proofs.YtgocahalfanpjaaDoor.Fo
open Go.ChangeShapes Go.WideShapes Go.ChangeAt Go.RowKit
set_option linter.unusedVariables false
set_option maxRecDepth 100000
set_option maxHeartbeats 16000000 in
theorem sp_rooted (r m : List UInt8) (hr : r.length ≤ 1048576) (hm : m.length ≤ 1048576) (w : World) : Calls Tryd.prog 22 #[.string (bt r), .string (bt m)] w fun e w' => e = .returned (clV (cln [] (rjn r m))) ∧ Kb 0 w w' := by
  obtain ⟨w1, hw1⟩ : ∃ w1, w1 = w.alloc (.cells #[.int .i64 0, .string ⟨#[]⟩] 23) := ⟨_, rfl⟩
  obtain ⟨b1, z1, k1⟩ := one_box w _ _ w1 hw1
  have H1 : Hid (w1.heap[w.heap.size]? = some (.cells #[.int .i64 0, .string ⟨#[]⟩] 23 (0, 0)) ∧ w1.heap.size = w.heap.size + 1 ∧ Kb 0 w w1) := (⟨b1, z1, k1⟩ : _ ∧ _)
  have HW : Hid (w1 = w.alloc (.cells #[.int .i64 0, .string ⟨#[]⟩] 23)) := hw1
  clear b1 z1 k1 hw1
  by_cases hr0 : r = []
  · subst hr0
    have HC : Calls Tryd.prog 15 #[.string (bt m)] w1 fun e w' => e = .returned (clV (cln [] (rjn [] m))) ∧ Kb 0 w1 w' := sp_clean m w1
    obtain ⟨V, hV⟩ : ∃ V, V = cln [] (rjn [] m) := ⟨_, rfl⟩
    rw [← hV] at HC ⊢
    have ebl : (bt []).toList = [] := bt_list []
    clear hV hr hm
    go_enter Tryd.func22, Tryd.ntmps22
    go_upto_region 1 with fail
    rw [← (show w1 = _ from HW)]
    clear HW
    go_wp2_with fail
    refine HC.mono ?_
    rintro e x ⟨rfl, kx⟩
    clear HC
    obtain ⟨c, s⟩ := V
    unfold clV
    dsimp only
    obtain ⟨b1, z1, k1⟩ := (show w1.heap[w.heap.size]? = some (.cells #[.int .i64 0, .string ⟨#[]⟩] 23 (0, 0)) ∧ w1.heap.size = w.heap.size + 1 ∧ Kb 0 w w1 from H1)
    have bW := blk_kb b1 kx
    have r0 : x.cell? ⟨w.heap.size, 0, none⟩ = some (.int .i64 0) := cell_of bW rfl
    have r1 : x.cell? ⟨w.heap.size, 1, none⟩ = some (.string ⟨#[]⟩) := cell_of bW rfl
    have fz : ∀ j, x.frozen? ⟨w.heap.size, j, none⟩ = false := fun j => frozen_of bW
    have HF : Hid (Kb 0 w ((x.setCell ⟨w.heap.size, 0, none⟩ (.int .i64 c)).setCell ⟨w.heap.size, 1, none⟩ (.string (bt s)))) := kb_set (kb_set (k1.trans kx) ⟨w.heap.size, 0, none⟩ (Nat.le_refl _) _) ⟨w.heap.size, 1, none⟩ (Nat.le_refl _) _
    obtain ⟨WF, hWF⟩ : ∃ WF, WF = (x.setCell ⟨w.heap.size, 0, none⟩ (.int .i64 c)).setCell ⟨w.heap.size, 1, none⟩ (.string (bt s)) := ⟨_, rfl⟩
    have bF : WF.heap[w.heap.size]? = some (.cells #[.int .i64 c, .string (bt s)] 23 (0, 0)) := by rw [hWF]; exact two_set _ _ bW
    have e0 : WF.cell? ⟨w.heap.size, 0, none⟩ = some (.int .i64 c) := cell_of bF rfl
    have e1 : WF.cell? ⟨w.heap.size, 1, none⟩ = some (.string (bt s)) := cell_of bF rfl
    rw [← hWF] at HF
    have HWF : Hid (WF = _) := hWF
    clear H1 b1 z1 k1 kx bW hWF bF
    go_wp2_with fail
    rw [← (show WF = _ from HWF)]
    clear HWF
    refine bodyPost_ret (by simp [results, Tryd.results22, go_sem, e0, e1]; rfl) rfl ?_
    exact ⟨rfl, HF⟩
  · have ec : bt r ++ ⟨#[47]⟩ ++ bt m = bt (rjn r m) := by
      unfold rjn
      rw [if_neg hr0, show (⟨#[47]⟩ : ByteArray) = bt [47] from rfl, bt_app, bt_app, List.append_assoc]
      rfl
    have HC : Calls Tryd.prog 15 #[.string (bt r ++ ⟨#[47]⟩ ++ bt m)] w1 fun e w' => e = .returned (clV (cln [] (rjn r m))) ∧ Kb 0 w1 w' := by rw [ec]; exact sp_clean (rjn r m) w1
    obtain ⟨V, hV⟩ : ∃ V, V = cln [] (rjn r m) := ⟨_, rfl⟩
    rw [← hV] at HC ⊢
    have ebl : (bt r).toList = r := bt_list r
    have h0 : (r == []) = false := by simpa using hr0
    have z1 : (bt r).size = r.length := bt_size r
    have z2 : (bt m).size = m.length := bt_size m
    have z3 : (bt r ++ ⟨#[47]⟩).size = r.length + 1 := by rw [show (⟨#[47]⟩ : ByteArray) = bt [47] from rfl, bt_app, bt_size]; simp
    have q1 : ¬ 9223372036854775807 < (bt r).size + (⟨#[47]⟩ : ByteArray).size := by rw [z1]; show ¬ _ < r.length + 1; omega
    have q2 : ¬ 9223372036854775807 < (bt r ++ ⟨#[47]⟩).size + (bt m).size := by rw [z3, z2]; omega
    clear hV hr hm hr0 ec
    go_enter Tryd.func22, Tryd.ntmps22
    go_upto_region 1 with fail
    rw [← (show w1 = _ from HW)]
    clear HW
    go_wp2_with fail
    refine HC.mono ?_
    rintro e x ⟨rfl, kx⟩
    clear HC
    obtain ⟨c, s⟩ := V
    unfold clV
    dsimp only
    obtain ⟨b1, z1, k1⟩ := (show w1.heap[w.heap.size]? = some (.cells #[.int .i64 0, .string ⟨#[]⟩] 23 (0, 0)) ∧ w1.heap.size = w.heap.size + 1 ∧ Kb 0 w w1 from H1)
    have bW := blk_kb b1 kx
    have r0 : x.cell? ⟨w.heap.size, 0, none⟩ = some (.int .i64 0) := cell_of bW rfl
    have r1 : x.cell? ⟨w.heap.size, 1, none⟩ = some (.string ⟨#[]⟩) := cell_of bW rfl
    have fz : ∀ j, x.frozen? ⟨w.heap.size, j, none⟩ = false := fun j => frozen_of bW
    have HF : Hid (Kb 0 w ((x.setCell ⟨w.heap.size, 0, none⟩ (.int .i64 c)).setCell ⟨w.heap.size, 1, none⟩ (.string (bt s)))) := kb_set (kb_set (k1.trans kx) ⟨w.heap.size, 0, none⟩ (Nat.le_refl _) _) ⟨w.heap.size, 1, none⟩ (Nat.le_refl _) _
    obtain ⟨WF, hWF⟩ : ∃ WF, WF = (x.setCell ⟨w.heap.size, 0, none⟩ (.int .i64 c)).setCell ⟨w.heap.size, 1, none⟩ (.string (bt s)) := ⟨_, rfl⟩
    have bF : WF.heap[w.heap.size]? = some (.cells #[.int .i64 c, .string (bt s)] 23 (0, 0)) := by rw [hWF]; exact two_set _ _ bW
    have e0 : WF.cell? ⟨w.heap.size, 0, none⟩ = some (.int .i64 c) := cell_of bF rfl
    have e1 : WF.cell? ⟨w.heap.size, 1, none⟩ = some (.string (bt s)) := cell_of bF rfl
    rw [← hWF] at HF
    have HWF : Hid (WF = _) := hWF
    clear H1 b1 z1 k1 kx bW hWF bF
    go_wp2_with fail
    rw [← (show WF = _ from HWF)]
    clear HWF
    refine bodyPost_ret (by simp [results, Tryd.results22, go_sem, e0, e1]; rfl) rfl ?_
    exact ⟨rfl, HF⟩
end Go.Proofs.YtgocahalfanpjaaDoor.Fo
