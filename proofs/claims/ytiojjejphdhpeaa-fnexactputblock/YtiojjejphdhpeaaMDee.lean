import Derived.Test.YtiojjejphdhpeaaMDed
import Derived.Test.YtiojjejphdhpeaaMDai
namespace Go.Proofs.Ytiojjejphdhpeaa.Fo
open Go.ChangeShapes Go.WideShapes Go.ChangeAt Go.RowKit
set_option linter.unusedVariables false
set_option maxRecDepth 100000
set_option linter.unusedSimpArgs false
set_option maxHeartbeats 8000000 in
theorem sp_all (n : Nat) (hn : n ≤ 1048576) (w : World) : Calls Try.prog 112 #[.int .i64 (n : Int)] w fun e w' => ∃ v, e = .returned v ∧ RowV w' v n (fun _ => .bool true) ∧ Kb 0 w w' := by
  have hnI : (n : Int) ≤ 1048576 := by omega
  have hmk := run_make (P := Try.prog) w 39 4 Try.t4 (.bool false) Try.underlying39 (by kernel_rfl) (by kernel_rfl) .i64 .i64 (n : Int) (n : Int) (by omega) (Int.le_refl _) (by show (1 : Int) * (n : Int) ≤ _; omega) (by omega)
  rw [Int.toNat_natCast] at hmk
  obtain ⟨w1, hw1⟩ : ∃ w1, w1 = w.alloc (.cells (madeCells (.bool false : Value).cells (n * 1)) 4) := ⟨_, rfl⟩
  have hmk2 := hmk
  rw [show n * Try.t4.size = n * 1 from rfl, ← hw1] at hmk2
  clear hmk
  have hk1 : Kb 0 w w1 := by rw [hw1]; exact kb_alloc _ _ _
  have c1 : ∀ j, j < n → w1.cell? ⟨w.heap.size, j, none⟩ = some (.bool false) := by intro j hj; rw [hw1]; exact made_cell w _ 4 n rfl j hj
  have f1 : ∀ j, w1.frozen? ⟨w.heap.size, j, none⟩ = false := by intro j; rw [hw1]; exact frozen_of (alloc_new _ _ _)
  have HI0 : Hid ((∀ j, j < n → w1.cell? ⟨w.heap.size, j, none⟩ = some (.bool (decide (j < 0)))) ∧ (∀ j, w1.frozen? ⟨w.heap.size, j, none⟩ = false) ∧ Kb 0 w w1) := (⟨fun j hj => by rw [c1 j hj]; simp, f1, hk1⟩ : _ ∧ _)
  obtain ⟨G, hG⟩ : ∃ G, G = w.heap.size := ⟨_, rfl⟩
  rw [← hG] at hmk2 HI0
  have HG : Hid (G = w.heap.size) := hG
  clear hw1 hk1 c1 f1 hn hG
  go_enter Try.func112, Try.ntmps112
  go_wp2_with fail
  go_loopw [9] (fun s9 wr => ∃ i : Nat, s9 = .int .i64 (i : Int) ∧ i ≤ n ∧ Hid ((∀ j, j < n → wr.cell? ⟨G, j, none⟩ = some (.bool (decide (j < i)))) ∧ (∀ j, wr.frozen? ⟨G, j, none⟩ = false) ∧ Kb 0 w wr)) (fun s9 _ => n - (intOf s9).toNat)
  case atStart => exact ⟨0, rfl, Nat.zero_le _, HI0⟩
  case round =>
    clear HI0 hmk2
    obtain ⟨i, rfl, hil, HX⟩ := hrel
    obtain ⟨hc, hf, hk⟩ := (show _ ∧ _ ∧ _ from HX)
    clear HX
    by_cases hi : i < n
    case neg =>
      obtain rfl : i = n := by omega
      have HE : Hid (RowV wr (.slice (some ⟨G, 0, none⟩) i i) i (fun _ => .bool true) ∧ Kb 0 w wr) := (⟨⟨_, _, rfl, fun _ => ⟨⟨G, 0, none⟩, rfl, Nat.le_refl _, fun j hj => by rw [addr0, hc j hj]; simp [hj]⟩⟩, hk⟩ : _ ∧ _)
      clear hc hf hk HG
      go_wp2_with fail
      go_ret
      exact ⟨_, rfl, HE⟩
    have hiI : (i : Int) < (n : Int) := by omega
    have c0 := hc i hi
    have f0 := hf i
    have HN : Hid ((∀ j, j < n → (wr.setCell ⟨G, i, none⟩ (.bool true)).cell? ⟨G, j, none⟩ = some (.bool (decide (j < i + 1)))) ∧ (∀ j, (wr.setCell ⟨G, i, none⟩ (.bool true)).frozen? ⟨G, j, none⟩ = false) ∧ Kb 0 w (wr.setCell ⟨G, i, none⟩ (.bool true))) := (⟨fun j hj => by
        by_cases e : j = i
        · subst e
          rw [set_eq _ _ _ _ _ c0]
          simp
        · rw [set_ne _ _ _ _ _ e, hc j hj]
          congr 2
          exact decide_eq_decide.2 (by omega), fun j => by rw [World.frozen?_setCell]; exact hf j, hk.setCell _ (.inr (by show _ ≤ G; have := (show G = w.heap.size from HG); omega)) _⟩ : _ ∧ _)
    clear hc hf hk HG
    go_wp2_with fail
    go_roundw
    case rel => exact ⟨i + 1, by go_num, by omega, HN⟩
    case measure => simp [intOf]; omega
set_option maxHeartbeats 4000000 in
theorem im_syncing (w : World) : Calls Try.prog 58 #[] w fun e w' => e = .returned (.func (.func 88) #[] #[]) ∧ w' = w := by
  go_enter Try.func58, Try.ntmps58
  go_wp2_with fail
  go_ret
  exact ⟨rfl, rfl⟩
set_option maxHeartbeats 4000000 in
theorem im_sync1 {w0 : World} {dv : Nat} {P : Nat → Nat → Int} {m : Nat} {Q : Nat → Ed} {vw : Value} (w : World) (h : Dr w0 dv P m Q vw w) (hm : m ≤ 200) (hq : ∀ j, j < m → 0 ≤ (Q j).b ∧ (Q j).b < 258) (Q' : Nat → Ed) :
    Calls Try.prog 88 #[.pointer (some ⟨dv, 0, none⟩)] w fun e w' => e = .returned (.bool true) ∧ Dr w0 dv (stl P Q m) 0 Q' (.slice none 0 0) w' := by
  have HS := im_sync w h hm hq Q'
  clear h hm hq
  go_enter Try.func88, Try.ntmps88
  go_wp2_with fail
  refine HS.mono ?_
  rintro e w1 ⟨rfl, hD⟩
  have HD : Hid (Dr w0 dv (stl P Q m) 0 Q' (.slice none 0 0) w1) := hD
  clear HS hD
  go_wp2_with fail
  go_ret
  exact ⟨rfl, HD⟩
end Go.Proofs.Ytiojjejphdhpeaa.Fo
