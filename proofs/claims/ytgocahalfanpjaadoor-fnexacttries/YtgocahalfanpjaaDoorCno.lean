import Derived.Test.YtgocahalfanpjaaDoorCnm
import Derived.Test.YtgocahalfanpjaaDoorCnf
namespace Go.Proofs.YtgocahalfanpjaaDoor.Fo
open Go.ChangeShapes Go.WideShapes Go.ChangeAt Go.RowKit Go.Shelf
set_option linter.unusedVariables false
set_option maxRecDepth 100000
attribute [local go_sem] Oper.semAt_some

set_option maxHeartbeats 16000000 in
theorem im_clean (l : List UInt8) (w : World) :
    Calls Tryd.prog 18 #[.string (bt l)] w fun e w' => e = .returned (clV (cln [] l)) ∧ Kb 0 w w' := by
  have HN : Hid (∀ W, Calls Tryd.prog 20 #[.slice none 0 0, .string (bt l)] W fun e w' => e = .returned (clV (cln [] l)) ∧ Kb 0 W w') := (fun W => (im_walked (pv := none) (cv := 0) (B := W.heap.size) (R := []) (l := l) (by simp) (by simp) (by simp) W (Nat.le_refl _) (World.ownsRow_nil _ _ _ _)).mono (fun e w' q => ⟨q.1, q.2.os, q.2.output, q.2.size, fun i _ hi => q.2.block i hi⟩) : ∀ W, _)
  obtain ⟨w1, hw1⟩ : ∃ w1, w1 = w.alloc (.cells #[.int .i64 0, .string ⟨#[]⟩] 23) := ⟨_, rfl⟩
  obtain ⟨b1, z1, k1⟩ := one_box w _ _ w1 hw1
  have B1 : Hid (w1.heap[w.heap.size]? = some (.cells #[.int .i64 0, .string ⟨#[]⟩] 23 (0, 0)) ∧ w1.heap.size = w.heap.size + 1 ∧ Kb 0 w w1) := (⟨b1, z1, k1⟩ : _ ∧ _)
  clear b1 z1 k1
  obtain ⟨V, hV⟩ : ∃ V, V = cln [] l := ⟨_, rfl⟩
  rw [← hV] at HN ⊢
  clear hV
  go_enter Tryd.func18, Tryd.ntmps18
  go_wp2_with fail
  rw [← hw1]
  refine ((show ∀ W, _ from HN) w1).mono ?_
  rintro e x ⟨rfl, kx⟩
  obtain ⟨b1, z1, k1⟩ := (show _ ∧ _ ∧ _ from B1)
  have HK : Kb 0 w x := k1.trans kx
  have bx : x.heap[w.heap.size]? = some (.cells #[.int .i64 0, .string ⟨#[]⟩] 23 (0, 0)) := (kx.block _ (Nat.zero_le _) (by omega)).trans b1
  have a0 : x.cell? ⟨w.heap.size, 0, none⟩ = some (.int .i64 0) := cell_of bx rfl
  have a1 : x.cell? ⟨w.heap.size, 1, none⟩ = some (.string ⟨#[]⟩) := cell_of bx rfl
  have fz : ∀ j, x.frozen? ⟨w.heap.size, j, none⟩ = false := fun j => frozen_of bx
  clear HN B1 b1 z1 k1 kx bx hw1 w1
  rw [clV]
  go_wp2_with fail
  refine bodyPost_ret (by simp [results, Tryd.results18, go_sem, a0, a1]; rfl) rfl ?_
  exact ⟨rfl, kb_set (kb_set HK ⟨w.heap.size, 0, none⟩ (Nat.le_refl _) _) ⟨w.heap.size, 1, none⟩ (Nat.le_refl _) _⟩
set_option maxHeartbeats 16000000 in
theorem eq_cleaned (c : Int) (s : ByteArray) (w : World) : Calls Tryd.prog 7 #[.agg #[.int .i64 c, .string s], .agg #[.int .i64 c, .string s]] w fun e w' => e = .returned (.bool true) ∧ Kb 0 w w' := by
  go_enter Tryd.func7, Tryd.ntmps7
  go_wp2_with fail
  go_ret
  exact ⟨rfl, (kb_alloc _ _ _).trans (kb_alloc _ _ _)⟩
end Go.Proofs.YtgocahalfanpjaaDoor.Fo
