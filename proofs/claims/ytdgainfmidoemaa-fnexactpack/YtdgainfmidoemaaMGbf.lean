import Derived.Test.YtdgainfmidoemaaMGbe
namespace Go.Proofs.Ytdgainfmidoemaa.Fo
open Go.ChangeShapes Go.WideShapes Go.ChangeAt Go.RowKit
set_option linter.unusedVariables false
set_option maxRecDepth 100000
set_option maxHeartbeats 8000000 in
theorem eq_things {va vb : Value} {n : Nat} {F : Nat → Td} (w : World) (ha : RowT 0 w va n F) (hb : RowT 0 w vb n F) (hn : n ≤ 1048576) (hF : ∀ i, i < n → (F i).c ≤ 1048576) :
    Calls Try.prog 40 #[va, vb] w fun e w' => e = .returned (.bool true) ∧ Kb 0 w w' := by
  obtain ⟨pa, ca, rfl, ha2⟩ := ha
  obtain ⟨pb, cb, rfl, hb2⟩ := hb
  have HA : Hid ((0 < n → ∃ a : Addr, pa = some a ∧ n ≤ ca ∧ 0 ≤ a.block ∧ ∀ i, i < n → ThC 0 w (a.add (i * 2)) (F i)) ∧ (0 < n → ∃ a : Addr, pb = some a ∧ n ≤ cb ∧ 0 ≤ a.block ∧ ∀ i, i < n → ThC 0 w (a.add (i * 2)) (F i)) ∧ (∀ i, i < n → (F i).c ≤ 1048576)) := (⟨ha2, hb2, hF⟩ : _ ∧ _)
  have hnI : (n : Int) ≤ 1048576 := by omega
  clear ha2 hb2 hn hF
  go_enter Try.func40, Try.ntmps40
  go_wp2_with fail
  go_loopw [5] (fun s5 wr => ∃ i : Nat, s5 = .int .i64 (i : Int) ∧ i ≤ n ∧ Hid (Kb 0 w wr)) (fun s5 _ => n - (intOf s5).toNat)
  case atStart => exact ⟨0, rfl, Nat.zero_le _, Kb.refl _ _⟩
  case round =>
    obtain ⟨i, rfl, hin, HB⟩ := hrel
    rcases Nat.lt_or_ge i n with hi | hi
    · have hA := (show (0 < n → ∃ a : Addr, pa = some a ∧ n ≤ ca ∧ 0 ≤ a.block ∧ ∀ i, i < n → ThC 0 w (a.add (i * 2)) (F i)) ∧ (0 < n → ∃ a : Addr, pb = some a ∧ n ≤ cb ∧ 0 ≤ a.block ∧ ∀ i, i < n → ThC 0 w (a.add (i * 2)) (F i)) ∧ (∀ i, i < n → (F i).c ≤ 1048576) from HA)
      obtain ⟨qa, rfl, hca, -, hra⟩ := hA.1 (by omega)
      obtain ⟨qb, rfl, hcb, -, hrb⟩ := hA.2.1 (by omega)
      have hiI : (i : Int) < (n : Int) := by omega
      obtain ⟨vc, ca, h1⟩ := (hra i hi).keep (Nat.zero_le _) HB
      obtain ⟨uc, cb, h2⟩ := (hrb i hi).keep (Nat.zero_le _) HB
      have y1 := hA.2.2 i hi
      have heq : ∀ W', Kb 0 wr W' → Calls Try.prog 62 #[thv (F i) vc, thv (F i) uc] W' fun e w' => e = .returned (.bool true) ∧ Kb 0 W' w' := fun W' k => eq_thing W' (fun W k2 => eq_vals W (h1.keep (k.trans k2)) (h2.keep (k.trans k2)) y1)
      replace heq : ∀ W', W'.heap = wr.heap → W'.os = wr.os → W'.output = wr.output → Calls Try.prog 62 #[thv (F i) vc, thv (F i) uc] W' fun e w' => e = .returned (.bool true) ∧ Kb 0 wr w' := fun W' h0 h1 h2 => by
        have kk : Kb 0 wr W' := ⟨h1, h2, by rw [h0]; exact Nat.le_refl _, fun k _ _ => by rw [h0]⟩
        refine (heq W' kk).mono ?_
        rintro e w' ⟨rfl, k⟩
        exact ⟨rfl, kk.trans k⟩
      obtain ⟨a0, a1⟩ := ca
      obtain ⟨b0, b1⟩ := cb
      clear hra hrb hA HA h1 h2 y1
      generalize F i = G at *
      obtain ⟨xt, gc, gC⟩ := G
      unfold thv at heq
      dsimp only at a0 b0 heq
      have HKEEP : Hid (∀ (W' : World), Kb 0 wr W' → W'.cell? (qa.add (i * 2)) = some (.int .i64 xt) ∧ W'.cell? ⟨(qa.add (i * 2)).block, (qa.add (i * 2)).off + 1, none⟩ = some (vc) ∧ W'.cell? (qb.add (i * 2)) = some (.int .i64 xt) ∧ W'.cell? ⟨(qb.add (i * 2)).block, (qb.add (i * 2)).off + 1, none⟩ = some (uc)) := by
        show ∀ (W' : World), _
        intro W' k
        exact ⟨k.cell a0, k.cell a1, k.cell b0, k.cell b1⟩
      have HEQ : Hid (∀ W', W'.heap = wr.heap → W'.os = wr.os → W'.output = wr.output → Calls Try.prog 62 #[.agg #[.int .i64 xt, vc], .agg #[.int .i64 xt, uc]] W' fun e w' => e = .returned (.bool true) ∧ Kb 0 wr w') := heq
      clear hin heq
      go_wp2_with fail
      go_region_held_law (fun W' => W'.cell? (qa.add (i * 2)) = some (.int .i64 xt) ∧ W'.cell? ⟨(qa.add (i * 2)).block, (qa.add (i * 2)).off + 1, none⟩ = some (vc) ∧ W'.cell? (qb.add (i * 2)) = some (.int .i64 xt) ∧ W'.cell? ⟨(qb.add (i * 2)).block, (qb.add (i * 2)).off + 1, none⟩ = some (uc)) (first | exact ⟨a0, a1, b0, b1⟩ | exact (show ∀ (W' : World), _ from HKEEP) _ k5)
        ((go_at_call 62; refine ((show ∀ W', W'.heap = wr.heap → W'.os = wr.os → W'.output = wr.output → Calls Try.prog 62 #[.agg #[.int .i64 xt, vc], .agg #[.int .i64 xt, uc]] W' fun e w' => e = .returned (.bool true) ∧ Kb 0 wr w' from HEQ) _ (by exact rfl) (by exact rfl) (by exact rfl)).mono ?_; rintro e w5 ⟨rfl, k5⟩))
      all_goals
        have HB5 : Hid (Kb 0 w w5) := (show Kb 0 w wr from HB).trans k5
        clear HB HKEEP HEQ k5 a0 a1 b0 b1
        go_wp2_with fail
        go_roundw
        case rel => exact ⟨i + 1, by go_num, by omega, HB5⟩
        case measure => simp [intOf]; omega
    · obtain rfl : i = n := by omega
      clear HA
      go_wp2_with fail
      go_ret
      exact ⟨rfl, HB⟩
end Go.Proofs.Ytdgainfmidoemaa.Fo
