import Derived.Test.YtieccnkabllamaaNbf
namespace Go.Proofs.Ytieccnkabllamaa.Fo
open Go.ChangeShapes Go.WideShapes Go.ChangeAt Go.RowKit
set_option linter.unusedVariables false
set_option maxRecDepth 100000
set_option maxHeartbeats 8000000 in
theorem eq_ups {va vb : Value} {n : Nat} {U : Nat → Bool × Int} (w : World) (ha : RowU 0 w va n U) (hb : RowU 0 w vb n U) (hn : n ≤ 1048576)  :
    Calls Try.prog 76 #[va, vb] w fun e w' => e = .returned (.bool true) ∧ Kb 0 w w' := by
  obtain ⟨pa, ca, rfl, ha2⟩ := ha
  obtain ⟨pb, cb, rfl, hb2⟩ := hb
  have HA : Hid ((0 < n → ∃ a : Addr, pa = some a ∧ n ≤ ca ∧ 0 ≤ a.block ∧ ∀ i, i < n → UpC 0 w (a.add (i * 2)) (U i)) ∧ (0 < n → ∃ a : Addr, pb = some a ∧ n ≤ cb ∧ 0 ≤ a.block ∧ ∀ i, i < n → UpC 0 w (a.add (i * 2)) (U i))) := (⟨ha2, hb2⟩ : _ ∧ _)
  have hnI : (n : Int) ≤ 1048576 := by omega
  clear ha2 hb2 hn 
  go_enter Try.func76, Try.ntmps76
  go_wp2_with fail
  go_loopw [5] (fun s5 wr => ∃ i : Nat, s5 = .int .i64 (i : Int) ∧ i ≤ n ∧ Hid (Kb 0 w wr)) (fun s5 _ => n - (intOf s5).toNat)
  case atStart => exact ⟨0, rfl, Nat.zero_le _, Kb.refl _ _⟩
  case round =>
    obtain ⟨i, rfl, hin, HB⟩ := hrel
    rcases Nat.lt_or_ge i n with hi | hi
    · have hA := (show (0 < n → ∃ a : Addr, pa = some a ∧ n ≤ ca ∧ 0 ≤ a.block ∧ ∀ i, i < n → UpC 0 w (a.add (i * 2)) (U i)) ∧ (0 < n → ∃ a : Addr, pb = some a ∧ n ≤ cb ∧ 0 ≤ a.block ∧ ∀ i, i < n → UpC 0 w (a.add (i * 2)) (U i)) from HA)
      obtain ⟨qa, rfl, hca, -, hra⟩ := hA.1 (by omega)
      obtain ⟨qb, rfl, hcb, -, hrb⟩ := hA.2 (by omega)
      have hiI : (i : Int) < (n : Int) := by omega
      have ca := (hra i hi).keep (Nat.zero_le _) HB
      have cb := (hrb i hi).keep (Nat.zero_le _) HB
      have heq : ∀ W', Kb 0 wr W' → Calls Try.prog 95 #[upv (U i), upv (U i)] W' fun e w' => e = .returned (.bool true) ∧ Kb 0 W' w' := fun W' _ => eq_up (U i) W'
      replace heq : ∀ W', W'.heap = wr.heap → W'.os = wr.os → W'.output = wr.output → Calls Try.prog 95 #[upv (U i), upv (U i)] W' fun e w' => e = .returned (.bool true) ∧ Kb 0 wr w' := fun W' h0 h1 h2 => by
        have kk : Kb 0 wr W' := ⟨h1, h2, by rw [h0]; exact Nat.le_refl _, fun k _ _ => by rw [h0]⟩
        refine (heq W' kk).mono ?_
        rintro e w' ⟨rfl, k⟩
        exact ⟨rfl, kk.trans k⟩
      obtain ⟨a0, a1⟩ := ca
      obtain ⟨b0, b1⟩ := cb
      clear hra hrb hA HA
      generalize U i = u at *
      obtain ⟨xb, xz⟩ := u
      unfold upv at heq
      dsimp only at a0 a1 b0 b1 heq
      have HKEEP : Hid (∀ (W' : World), Kb 0 wr W' → W'.cell? (qa.add (i * 2)) = some (.bool xb) ∧ W'.cell? ⟨(qa.add (i * 2)).block, (qa.add (i * 2)).off + 1, none⟩ = some (.int .i64 xz) ∧ W'.cell? (qb.add (i * 2)) = some (.bool xb) ∧ W'.cell? ⟨(qb.add (i * 2)).block, (qb.add (i * 2)).off + 1, none⟩ = some (.int .i64 xz)) := by
        show ∀ (W' : World), _
        intro W' k
        exact ⟨k.cell a0, k.cell a1, k.cell b0, k.cell b1⟩
      have HEQ : Hid (∀ W', W'.heap = wr.heap → W'.os = wr.os → W'.output = wr.output → Calls Try.prog 95 #[.agg #[.bool xb, .int .i64 xz], .agg #[.bool xb, .int .i64 xz]] W' fun e w' => e = .returned (.bool true) ∧ Kb 0 wr w') := heq
      clear hin heq
      go_wp2_with fail
      go_region_held_law (fun W' => W'.cell? (qa.add (i * 2)) = some (.bool xb) ∧ W'.cell? ⟨(qa.add (i * 2)).block, (qa.add (i * 2)).off + 1, none⟩ = some (.int .i64 xz) ∧ W'.cell? (qb.add (i * 2)) = some (.bool xb) ∧ W'.cell? ⟨(qb.add (i * 2)).block, (qb.add (i * 2)).off + 1, none⟩ = some (.int .i64 xz)) (first | exact ⟨a0, a1, b0, b1⟩ | exact (show ∀ (W' : World), _ from HKEEP) _ k5)
        ((go_at_call 95; refine ((show ∀ W', W'.heap = wr.heap → W'.os = wr.os → W'.output = wr.output → Calls Try.prog 95 #[.agg #[.bool xb, .int .i64 xz], .agg #[.bool xb, .int .i64 xz]] W' fun e w' => e = .returned (.bool true) ∧ Kb 0 wr w' from HEQ) _ (by exact rfl) (by exact rfl) (by exact rfl)).mono ?_; rintro e w5 ⟨rfl, k5⟩))
      all_goals
        have HB5 : Hid (Kb 0 w w5) := (show Kb 0 w wr from HB).trans k5
        clear HB HKEEP HEQ k5 a0 a1 b0 b1
        go_wp2_with fail
        go_roundw
        case rel => exact ⟨i + 1, by go_num, by omega, HB5⟩
        case measure => simp [intOf]; omega
    · obtain rfl : i = n := by omega
      clear HA
      go_wp2_with fail
      go_ret
      exact ⟨rfl, HB⟩
end Go.Proofs.Ytieccnkabllamaa.Fo
