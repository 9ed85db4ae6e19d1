import Derived.Test.YtdgainfmidoemaaMGbc
namespace Go.Proofs.Ytdgainfmidoemaa.Fo
open Go.ChangeShapes Go.WideShapes Go.ChangeAt Go.RowKit
set_option linter.unusedVariables false
set_option maxRecDepth 100000
set_option maxHeartbeats 8000000 in
theorem to_things {va : Value} {n : Nat} {F : Nat → Td} (w : World) (ha : RowT 0 w va n F) (hn : n ≤ 1048576) (hF : ∀ i, i < n → (F i).c ≤ 1048576) :
    Calls Try.prog 37 #[va] w fun e w' => ∃ v, e = .returned v ∧ RowT w.heap.size w' v n F ∧ Kb 0 w w' := by
  obtain ⟨pa, ca, rfl, ha2⟩ := ha
  have hnI : (n : Int) ≤ 1048576 := by omega
  have hmk := run_make (P := Try.prog) w 30 56 Try.t56 (.agg #[.int .i64 0, .slice none 0 0]) Try.underlying30 (by kernel_rfl) (by kernel_rfl) .i64 .i64 (n : Int) (n : Int) (by omega) (Int.le_refl _) (by show (32 : Int) * (n : Int) ≤ _; omega) (by omega)
  rw [Int.toNat_natCast] at hmk
  obtain ⟨w1, hw1⟩ : ∃ w1, w1 = w.alloc (.cells (madeCells (.agg #[.int .i64 0, .slice none 0 0] : Value).cells (n * 2)) 56) := ⟨_, rfl⟩
  have hmk2 := hmk
  rw [show n * Try.t56.size = n * 2 from rfl, ← hw1] at hmk2
  clear hmk
  have hk1 : Kb 0 w w1 := by rw [hw1]; exact kb_alloc _ _ _
  obtain ⟨G, hG⟩ : ∃ G, G = w.heap.size := ⟨_, rfl⟩
  have HI0 : Hid (∃ E : Nat → List Value, Mk 2 w1 G n E 0 w1 ∧ ∀ j, j < 0 → ∃ vc, E j = [.int .i64 (F j).t, vc] ∧ RowW (G + 1) w1 vc (F j).c (F j).C) := by
    refine ⟨fun _ => [], ?_, fun j hj => by omega⟩
    rw [hG, hw1]
    exact mk_zero w _ 2 _ n _ rfl
  have HA : Hid ((0 < n → ∃ a : Addr, pa = some a ∧ n ≤ ca ∧ 0 ≤ a.block ∧ ∀ i, i < n → ThC 0 w (a.add (i * 2)) (F i)) ∧ Kb 0 w w1 ∧ G = w.heap.size ∧ (∀ i, i < n → (F i).c ≤ 1048576)) := (⟨ha2, hk1, hG, hF⟩ : _ ∧ _)
  rw [← hG] at hmk2
  clear ha2 hk1 hw1 hn hG hF
  go_enter Try.func37, Try.ntmps37
  go_wp2_with fail
  go_loopw [4] (fun s4 wr => ∃ i : Nat, s4 = .int .i64 (i : Int) ∧ i ≤ n ∧ Hid (∃ E : Nat → List Value, Mk 2 w1 G n E i wr ∧ ∀ j, j < i → ∃ vc, E j = [.int .i64 (F j).t, vc] ∧ RowW (G + 1) wr vc (F j).c (F j).C)) (fun s4 _ => n - (intOf s4).toNat)
  case atStart => exact ⟨0, rfl, Nat.zero_le _, HI0⟩
  case round =>
    clear HI0 hmk2
    obtain ⟨i, rfl, hin, HI⟩ := hrel
    obtain ⟨E, hM, hR⟩ := (show ∃ E : Nat → List Value, Mk 2 w1 G n E i wr ∧ ∀ j, j < i → ∃ vc, E j = [.int .i64 (F j).t, vc] ∧ RowW (G + 1) wr vc (F j).c (F j).C from HI)
    have hA := (show (0 < n → ∃ a : Addr, pa = some a ∧ n ≤ ca ∧ 0 ≤ a.block ∧ ∀ i, i < n → ThC 0 w (a.add (i * 2)) (F i)) ∧ Kb 0 w w1 ∧ G = w.heap.size ∧ (∀ i, i < n → (F i).c ≤ 1048576) from HA)
    have hBW : Kb 0 w wr := by
      have hG := hA.2.2.1
      have hA2 := hA.2.1
      exact ⟨hM.os.trans hA2.os, hM.output.trans hA2.output, Nat.le_trans hA2.size hM.size, fun b _ hb => (hM.block b (Nat.lt_of_lt_of_le hb hA2.size) (by omega)).trans (hA2.block b (Nat.zero_le _) hb)⟩
    rcases Nat.lt_or_ge i n with hi | hi
    · have hiI : (i : Int) < (n : Int) := by omega
      obtain ⟨a, rfl, hca, _, hra⟩ := hA.1 (by omega)
      obtain ⟨vc, hcel, hvc⟩ := (hra i hi).keep (Nat.zero_le _) hBW
      have y1 := hA.2.2.2 i hi
      obtain ⟨d0, d1⟩ := hcel
      have HT : Hid (Calls Try.prog 61 #[thv (F i) vc] wr fun e w' => ∃ v0, e = .returned (thv (F i) v0) ∧ RowW wr.heap.size w' v0 (F i).c (F i).C ∧ Kb 0 wr w') := to_thing wr (fun W k => to_vals W (hvc.keep k) y1)
      have HS : Hid (∀ w6 (v0 : Value), Kb 0 wr w6 → RowW wr.heap.size w6 v0 (F i).c (F i).C → (∀ t, t < 2 → ∃ u, w6.cell? ⟨G, i * 2 + t, none⟩ = some u) ∧ (∀ j, w6.frozen? ⟨G, j, none⟩ = false) ∧ ∃ E : Nat → List Value, Mk 2 w1 G n E (i + 1) (setL w6 G (i * 2) [.int .i64 (F i).t, v0]) ∧ ∀ j, j < i + 1 → ∃ vc, E j = [.int .i64 (F j).t, vc] ∧ RowW (G + 1) (setL w6 G (i * 2) [.int .i64 (F i).t, v0]) vc (F j).c (F j).C) := by
        show ∀ w6 (v0 : Value), _
        intro w6 v0 k6 r0
        have h6 := hM.kb k6
        have hgl := Nat.lt_of_lt_of_le hM.gl hM.size
        have kl : Kb (G + 1) w6 (setL w6 G (i * 2) [.int .i64 (F i).t, v0]) := ⟨(setL_os _ _ _ _).1, (setL_os _ _ _ _).2, by rw [setL_size]; exact Nat.le_refl _, fun k h1 _ => setL_block _ _ (by omega) _ _ _⟩
        refine ⟨h6.rest i (Nat.le_refl _) hi, h6.fz, _, h6.step hi rfl, fun j hj => ?_⟩
        by_cases e : j = i
        · subst e
          rw [if_pos rfl]
          exact ⟨v0, rfl, (r0.mono (by omega)).keep kl⟩
        · rw [if_neg e]
          obtain ⟨uv, q1, q2⟩ := hR j (by omega)
          exact ⟨uv, q1, (q2.keep (k6.mono (Nat.zero_le _))).keep kl⟩
      clear hA HA hM hR HI hra hin hBW hvc y1
      go_wp2_with fail
      refine (show Calls Try.prog 61 #[thv (F i) vc] wr fun e w' => ∃ v0, e = .returned (thv (F i) v0) ∧ RowW wr.heap.size w' v0 (F i).c (F i).C ∧ Kb 0 wr w' from HT).mono ?_
      rintro e w6 ⟨v0, rfl, r0, k6⟩
      obtain ⟨hc, hf, hT⟩ := (show ∀ w6 (v0 : Value), _ from HS) w6 v0 k6 r0
      have HTT : Hid (∃ E : Nat → List Value, Mk 2 w1 G n E (i + 1) (setL w6 G (i * 2) [.int .i64 (F i).t, v0]) ∧ ∀ j, j < i + 1 → ∃ vc, E j = [.int .i64 (F j).t, vc] ∧ RowW (G + 1) (setL w6 G (i * 2) [.int .i64 (F i).t, v0]) vc (F j).c (F j).C) := hT
      obtain ⟨u0, h0⟩ := hc 0 (by omega)
      obtain ⟨u1, h1⟩ := hc 1 (by omega)
      rw [Nat.add_zero] at h0
      have e0 := hf (i * 2)
      have e1 := hf (i * 2 + 1)
      clear hc hf hT HS HT
      obtain ⟨p0, l0, rfl, _⟩ := id r0
      clear k6 r0 d0 d1
      unfold thv
      go_wp2_with fail
      go_roundw
      case rel => exact ⟨i + 1, by go_num, by omega, HTT⟩
      case measure => simp [intOf]; omega
    · obtain rfl : i = n := by omega
      have HE : Hid (Mk 2 w1 G i E i wr ∧ (∀ j, j < i → ∃ vc, E j = [.int .i64 (F j).t, vc] ∧ RowW (G + 1) wr vc (F j).c (F j).C) ∧ Kb 0 w wr ∧ G = w.heap.size) := (⟨hM, hR, hBW, hA.2.2.1⟩ : _ ∧ _ ∧ _ ∧ _)
      clear HI hM hR hA HA hBW
      go_wp2_with fail
      go_ret
      obtain ⟨hM, hR, hB, hG⟩ := (show Mk 2 w1 G i E i wr ∧ (∀ j, j < i → ∃ vc, E j = [.int .i64 (F j).t, vc] ∧ RowW (G + 1) wr vc (F j).c (F j).C) ∧ Kb 0 w wr ∧ G = w.heap.size from HE)
      refine ⟨_, rfl, ⟨_, _, rfl, fun _ => ⟨⟨G, 0, none⟩, rfl, Nat.le_refl _, (by show w.heap.size ≤ G; omega), fun j hj => ?_⟩⟩, hB⟩
      rw [addr0]
      have hce := hM.ce j hj
      obtain ⟨uv, q1, q2⟩ := hR j hj
      rw [q1] at hce
      exact ⟨uv, CelT.of hce, q2.mono (by omega)⟩
end Go.Proofs.Ytdgainfmidoemaa.Fo
