import Derived.Test.YtbbjbojjglhgmaaMGed
import Derived.Test.YtbbjbojjglhgmaaMGdf
import Derived.Test.YtbbjbojjglhgmaaMGcd
namespace Go.Proofs.Ytbbjbojjglhgmaa.Fo
open Go.ChangeShapes Go.WideShapes Go.ChangeAt Go.RowKit
set_option linter.unusedVariables false
set_option maxRecDepth 100000
theorem kq_alloc (S : Nat → Prop) (w : World) (o : Obj) : Kq S w (w.alloc o) := ⟨rfl, rfl, rfl, by rw [World.size_alloc]; omega, fun k hk _ => (kb_alloc 0 w o).block k (Nat.zero_le _) hk⟩
set_option maxHeartbeats 4000000 in
theorem mark_graph {L H : Nat} {a : Gv} {v : Value} {n : Nat} {c : Nat → Nat} {g : Nat} {V : Nat → Value} {G : Nat → Nat} (w : World) (k : Int) (h : OwG L H w v n c g V G) (hH : H ≤ w.heap.size) (hn : n ≤ 1048576) (hc : ∀ i, i < n → c i ≤ 1048576) (hk1 : 1 ≤ k) (hsm : k + (sm (fun i => 1 + 4 * c i) n : Int) ≤ 200000000) :
    Calls Try.prog 74 #[grv a v, .int .i64 k] w fun e w' => e = .returned (.int .i64 (k + (sm (fun i => 1 + 4 * c i) n : Int))) ∧ Kq (fun q => L ≤ q ∧ q < H) w w' ∧ MdG L H w' v n c g V G k := by
  obtain ⟨w1, hw1⟩ : ∃ w1, w1 = w.alloc (.cells #[.int .i64 a.k, .int .i64 a.m, .string a.x, .int .i64 a.r, v] 27) := ⟨_, rfl⟩
  have k1 : Kq (fun q => L ≤ q ∧ q < H) w w1 := by rw [hw1]; exact kq_alloc _ _ _
  have b1 : ∀ q, q < w.heap.size → w1.heap[q]? = w.heap[q]? := fun q hq => by rw [hw1]; exact (kb_alloc 0 w _).block q (Nat.zero_le _) hq
  have c4 : w1.cell? ⟨w.heap.size, 4, none⟩ = some v := by rw [hw1]; exact cell_of (alloc_new _ _ _) rfl
  have HM := mark_things w1 k (h.block (fun q _ hq => b1 q (by omega))) hn hc hk1 hsm
  obtain ⟨p, cap, rfl, _⟩ := h.sl
  have HW1 : Hid (w1 = _) := hw1
  clear h hc hsm hw1 b1
  unfold grv
  go_enter Try.func74, Try.ntmps74
  go_upto_region 1 with fail
  rw [← (show w1 = _ from HW1)]
  clear HW1
  go_wp2_with fail
  refine HM.mono ?_
  rintro e w2 ⟨rfl, k2, m2⟩
  have HE : Hid (Kq (fun q => L ≤ q ∧ q < H) w w2 ∧ MdG L H w2 (.slice p n cap) n c g V G k) := (⟨k1.trans k2, m2⟩ : _ ∧ _)
  clear HM k1 k2 m2 c4
  go_wp2_with fail
  go_ret
  exact ⟨rfl, HE⟩
set_option maxHeartbeats 4000000 in
theorem held_graph {L H : Nat} {a : Gv} {v : Value} {n : Nat} {c : Nat → Nat} {g : Nat} {V : Nat → Value} {G : Nat → Nat} (w : World) (k : Int) (h : MdG L H w v n c g V G k) (hH : H ≤ w.heap.size) (hn : n ≤ 1048576) (hc : ∀ i, i < n → c i ≤ 1048576) (hk1 : 1 ≤ k) (hsm : k + (sm (fun i => 1 + 4 * c i) n : Int) ≤ 200000000) :
    Calls Try.prog 75 #[grv a v, .int .i64 k] w fun e w' => e = .returned (.int .i64 (k + (sm (fun i => 1 + 4 * c i) n : Int))) ∧ Kb 0 w w' := by
  obtain ⟨w1, hw1⟩ : ∃ w1, w1 = w.alloc (.cells #[.int .i64 a.k, .int .i64 a.m, .string a.x, .int .i64 a.r, v] 27) := ⟨_, rfl⟩
  have k1 : Kb 0 w w1 := by rw [hw1]; exact kb_alloc _ _ _
  have c4 : w1.cell? ⟨w.heap.size, 4, none⟩ = some v := by rw [hw1]; exact cell_of (alloc_new _ _ _) rfl
  have HM := held_things w1 k (h.block (fun q _ hq => k1.block q (Nat.zero_le _) (by omega))) hn hc hk1 hsm
  obtain ⟨p, cap, rfl, _⟩ := h.sl
  have HW1 : Hid (w1 = _) := hw1
  have hx : ¬ k + (sm (fun i => 1 + 4 * c i) n : Int) < 0 := by omega
  obtain ⟨K, hK⟩ : ∃ K, K = k + (sm (fun i => 1 + 4 * c i) n : Int) := ⟨_, rfl⟩
  rw [← hK] at HM hx ⊢
  clear h hc hsm hw1 hK
  unfold grv
  go_enter Try.func75, Try.ntmps75
  go_upto_region 1 with fail
  rw [← (show w1 = _ from HW1)]
  clear HW1
  go_wp2_with fail
  refine HM.mono ?_
  rintro e w2 ⟨rfl, k2⟩
  have HE : Hid (Kb 0 w w2) := k1.trans k2
  clear HM k1 k2 c4
  go_wp2_with fail
  go_ret
  exact ⟨rfl, HE⟩
end Go.Proofs.Ytbbjbojjglhgmaa.Fo
