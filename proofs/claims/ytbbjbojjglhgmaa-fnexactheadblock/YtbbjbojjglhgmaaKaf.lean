import Derived.Test.YtbbjbojjglhgmaaKae
namespace Go.Proofs.Ytbbjbojjglhgmaa.Fo
open Go.ChangeShapes Go.WideShapes Go.ChangeAt Go.RowKit
set_option linter.unusedVariables false
set_option maxRecDepth 100000
set_option maxHeartbeats 8000000 in
theorem sp_head {ok : Bool} {g l s : Int} (w : World) :
    Calls Try.prog 47 #[.agg #[.bool ok, .int .i64 g, .int .i64 l, .int .i64 s]] w fun e w' => ∃ v, e = .returned v ∧ (Hok ok g l → RowB w.heap.size w' v 64 (fun i => .int .u8 (hdb g l s i))) ∧ (¬ Hok ok g l → v = .slice none 0 0) ∧ Kb 0 w w' := by
  obtain ⟨w1, hw1⟩ : ∃ w1, w1 = w.alloc (.cells #[.bool ok, .int .i64 g, .int .i64 l, .int .i64 s] 64) := ⟨_, rfl⟩
  have k1 : Kb 0 w w1 := by rw [hw1]; exact kb_alloc _ _ _
  have b1 : w1.heap[w.heap.size]? = some (.cells #[.bool ok, .int .i64 g, .int .i64 l, .int .i64 s] 64 (0, 0)) := by rw [hw1]; exact alloc_new _ _ _
  have HO := sp_hok (ok := ok) (g := g) (l := l) (s := s) w1
  have c0 : w1.cell? ⟨w.heap.size, 0, none⟩ = some (.bool ok) := cell_of b1 rfl
  have c1 : w1.cell? ⟨w.heap.size, 1, none⟩ = some (.int .i64 g) := cell_of b1 rfl
  have c2 : w1.cell? ⟨w.heap.size, 2, none⟩ = some (.int .i64 l) := cell_of b1 rfl
  have c3 : w1.cell? ⟨w.heap.size, 3, none⟩ = some (.int .i64 s) := cell_of b1 rfl
  have HB : Hid (Kb 0 w w1 ∧ w1.heap[w.heap.size]? = some (.cells #[.bool ok, .int .i64 g, .int .i64 l, .int .i64 s] 64 (0, 0))) := (⟨k1, b1⟩ : _ ∧ _)
  have HW : Hid (w1 = w.alloc (.cells #[.bool ok, .int .i64 g, .int .i64 l, .int .i64 s] 64)) := hw1
  clear hw1 k1 b1
  by_cases h : Hok ok g l
  rotate_left
  · rw [dc_f h] at HO
    have HH : Hid (¬ Hok ok g l) := h
    clear h
    go_enter Try.func47, Try.ntmps47
    go_upto_region 1 with fail
    rw [← (show w1 = _ from HW)]
    clear HW
    go_wp2_with fail
    refine HO.mono ?_
    rintro e w2 ⟨rfl, k2⟩
    have HF : Hid (Kb 0 w w2) := (show _ ∧ _ from HB).1.trans k2
    clear HO k2 c0 c1 c2 c3 HB
    go_wp2_with fail
    go_ret
    exact ⟨_, rfl, fun q => absurd q HH, fun _ => rfl, HF⟩
  rw [dc_t h] at HO
  have HH : Hid (Hok ok g l) := h
  clear h
  go_enter Try.func47, Try.ntmps47
  go_upto_region 1 with fail
  rw [← (show w1 = _ from HW)]
  clear HW
  go_wp2_with fail
  refine HO.mono ?_
  rintro e w2 ⟨rfl, k2⟩
  clear HO c0 c1 c2 c3
  obtain ⟨k1, b1⟩ := (show _ ∧ _ from HB)
  have b2 := (k2.block _ (Nat.zero_le _) (Array.getElem?_eq_some_iff.1 b1).1).trans b1
  have c0 : w2.cell? ⟨w.heap.size, 0, none⟩ = some (.bool ok) := cell_of b2 rfl
  have c1 : w2.cell? ⟨w.heap.size, 1, none⟩ = some (.int .i64 g) := cell_of b2 rfl
  have c2 : w2.cell? ⟨w.heap.size, 2, none⟩ = some (.int .i64 l) := cell_of b2 rfl
  have c3 : w2.cell? ⟨w.heap.size, 3, none⟩ = some (.int .i64 s) := cell_of b2 rfl
  have HBL := sp_block (ok := ok) (g := g) (l := l) (s := s) w2
  have HK : Hid (Kb 0 w w2) := k1.trans k2
  clear HB k1 b1 b2 k2
  go_wp2_with fail
  refine HBL.mono ?_
  rintro e w3 ⟨v3, rfl, r3, k3⟩
  have k2 := (show Kb 0 w w2 from HK)
  have HF : Hid (RowB w.heap.size w3 v3 64 (fun i => .int .u8 (hdb g l s i)) ∧ Kb 0 w w3) := (⟨r3.mono k2.size, k2.trans k3⟩ : _ ∧ _)
  obtain ⟨p3, q3, rfl, -⟩ := r3
  clear HBL k3 k2 HK c0 c1 c2 c3
  go_wp2_with fail
  go_ret
  exact ⟨_, rfl, fun _ => (show _ ∧ _ from HF).1, fun q => absurd HH q, (show _ ∧ _ from HF).2⟩
end Go.Proofs.Ytbbjbojjglhgmaa.Fo
