import Derived.Test.YtieccnkabllamaaNbd
namespace Go.Proofs.Ytieccnkabllamaa.Fo
open Go.ChangeShapes Go.WideShapes Go.ChangeAt Go.RowKit
set_option linter.unusedVariables false
set_option maxRecDepth 100000
set_option maxHeartbeats 8000000 in
theorem to_ups {va : Value} {n : Nat} {U : Nat → Bool × Int} (w : World) (ha : RowU 0 w va n U) (hn : n ≤ 1048576)  :
    Calls Try.prog 64 #[va] w fun e w' => ∃ v, e = .returned v ∧ RowU w.heap.size w' v n U ∧ Kb 0 w w' := by
  obtain ⟨pa, ca, rfl, ha2⟩ := ha
  have hnI : (n : Int) ≤ 1048576 := by omega
  have hmk := run_make (P := Try.prog) w 67 108 Try.t108 (.agg #[.bool false, .int .i64 0]) Try.underlying67 (by kernel_rfl) (by kernel_rfl) .i64 .i64 (n : Int) (n : Int) (by omega) (Int.le_refl _) (by show (16 : Int) * (n : Int) ≤ _; omega) (by omega)
  rw [Int.toNat_natCast] at hmk
  obtain ⟨w1, hw1⟩ : ∃ w1, w1 = w.alloc (.cells (madeCells (.agg #[.bool false, .int .i64 0] : Value).cells (n * 2)) 108) := ⟨_, rfl⟩
  have hmk2 := hmk
  rw [show n * Try.t108.size = n * 2 from rfl, ← hw1] at hmk2
  clear hmk
  have hk1 : Kb 0 w w1 := by rw [hw1]; exact kb_alloc _ _ _
  obtain ⟨G, hG⟩ : ∃ G, G = w.heap.size := ⟨_, rfl⟩
  have HI0 : Hid (∃ E : Nat → List Value, Mk 2 w1 G n E 0 w1 ∧ ∀ j, j < 0 → E j = [.bool (U j).1, .int .i64 (U j).2]) := by
    refine ⟨fun _ => [], ?_, fun j hj => by omega⟩
    rw [hG, hw1]
    exact mk_zero w _ 2 _ n _ rfl
  have HA : Hid ((0 < n → ∃ a : Addr, pa = some a ∧ n ≤ ca ∧ 0 ≤ a.block ∧ ∀ i, i < n → UpC 0 w (a.add (i * 2)) (U i)) ∧ Kb 0 w w1 ∧ G = w.heap.size) := (⟨ha2, hk1, hG⟩ : _ ∧ _)
  rw [← hG] at hmk2
  clear ha2 hk1 hw1 hn hG 
  go_enter Try.func64, Try.ntmps64
  go_wp2_with fail
  go_loopw [4] (fun s4 wr => ∃ i : Nat, s4 = .int .i64 (i : Int) ∧ i ≤ n ∧ Hid (∃ E : Nat → List Value, Mk 2 w1 G n E i wr ∧ ∀ j, j < i → E j = [.bool (U j).1, .int .i64 (U j).2])) (fun s4 _ => n - (intOf s4).toNat)
  case atStart => exact ⟨0, rfl, Nat.zero_le _, HI0⟩
  case round =>
    clear HI0 hmk2
    obtain ⟨i, rfl, hin, HI⟩ := hrel
    obtain ⟨E, hM, hR⟩ := (show ∃ E : Nat → List Value, Mk 2 w1 G n E i wr ∧ ∀ j, j < i → E j = [.bool (U j).1, .int .i64 (U j).2] from HI)
    have hA := (show (0 < n → ∃ a : Addr, pa = some a ∧ n ≤ ca ∧ 0 ≤ a.block ∧ ∀ i, i < n → UpC 0 w (a.add (i * 2)) (U i)) ∧ Kb 0 w w1 ∧ G = w.heap.size from HA)
    have hBW : Kb 0 w wr := by
      have hG := hA.2.2
      have hA2 := hA.2.1
      exact ⟨hM.os.trans hA2.os, hM.output.trans hA2.output, Nat.le_trans hA2.size hM.size, fun b _ hb => (hM.block b (Nat.lt_of_lt_of_le hb hA2.size) (by omega)).trans (hA2.block b (Nat.zero_le _) hb)⟩
    rcases Nat.lt_or_ge i n with hi | hi
    · have hiI : (i : Int) < (n : Int) := by omega
      obtain ⟨a, rfl, hca, _, hra⟩ := hA.1 (by omega)
      obtain ⟨d0, d1⟩ := (hra i hi).keep (Nat.zero_le _) hBW
      have HT : Hid (Calls Try.prog 86 #[upv (U i)] wr fun e w' => e = .returned (upv (U i)) ∧ Kb 0 wr w') := to_up (U i) wr
      have HS : Hid (∀ w6 , Kb 0 wr w6 → (∀ t, t < 2 → ∃ u, w6.cell? ⟨G, i * 2 + t, none⟩ = some u) ∧ (∀ j, w6.frozen? ⟨G, j, none⟩ = false) ∧ ∃ E : Nat → List Value, Mk 2 w1 G n E (i + 1) (setL w6 G (i * 2) [.bool (U i).1, .int .i64 (U i).2]) ∧ ∀ j, j < i + 1 → E j = [.bool (U j).1, .int .i64 (U j).2]) := by
        show ∀ w6 , _
        intro w6  k6 
        have h6 := hM.kb k6
        have hgl := Nat.lt_of_lt_of_le hM.gl hM.size
        have kl : Kb (G + 1) w6 (setL w6 G (i * 2) [.bool (U i).1, .int .i64 (U i).2]) := ⟨(setL_os _ _ _ _).1, (setL_os _ _ _ _).2, by rw [setL_size]; exact Nat.le_refl _, fun k h1 _ => setL_block _ _ (by omega) _ _ _⟩
        refine ⟨h6.rest i (Nat.le_refl _) hi, h6.fz, _, h6.step hi rfl, fun j hj => ?_⟩
        by_cases e : j = i
        · subst e
          exact if_pos rfl
        · rw [if_neg e]
          exact hR j (by omega)
      clear hA HA hM hR HI hra hin hBW 
      go_wp2_with fail
      refine (show Calls Try.prog 86 #[upv (U i)] wr fun e w' => e = .returned (upv (U i)) ∧ Kb 0 wr w' from HT).mono ?_
      rintro e w6 ⟨rfl, k6⟩
      obtain ⟨hc, hf, hT⟩ := (show ∀ w6 , _ from HS) w6 k6
      have HTT : Hid (∃ E : Nat → List Value, Mk 2 w1 G n E (i + 1) (setL w6 G (i * 2) [.bool (U i).1, .int .i64 (U i).2]) ∧ ∀ j, j < i + 1 → E j = [.bool (U j).1, .int .i64 (U j).2]) := hT
      obtain ⟨u0, h0⟩ := hc 0 (by omega)
      obtain ⟨u1, h1⟩ := hc 1 (by omega)
      rw [Nat.add_zero] at h0
      have e0 := hf (i * 2)
      have e1 := hf (i * 2 + 1)
      clear hc hf hT HS HT
      skip
      clear k6 d0 d1
      unfold upv
      go_wp2_with fail
      go_roundw
      case rel => exact ⟨i + 1, by go_num, by omega, HTT⟩
      case measure => simp [intOf]; omega
    · obtain rfl : i = n := by omega
      have HE : Hid (Mk 2 w1 G i E i wr ∧ (∀ j, j < i → E j = [.bool (U j).1, .int .i64 (U j).2]) ∧ Kb 0 w wr ∧ G = w.heap.size) := (⟨hM, hR, hBW, hA.2.2⟩ : _ ∧ _ ∧ _ ∧ _)
      clear HI hM hR hA HA hBW
      go_wp2_with fail
      go_ret
      obtain ⟨hM, hR, hB, hG⟩ := (show Mk 2 w1 G i E i wr ∧ (∀ j, j < i → E j = [.bool (U j).1, .int .i64 (U j).2]) ∧ Kb 0 w wr ∧ G = w.heap.size from HE)
      refine ⟨_, rfl, ⟨_, _, rfl, fun _ => ⟨⟨G, 0, none⟩, rfl, Nat.le_refl _, (by show w.heap.size ≤ G; omega), fun j hj => ?_⟩⟩, hB⟩
      rw [addr0]
      have hce := hM.ce j hj
      rw [hR j hj] at hce
      exact CelU.of hce
set_option maxHeartbeats 8000000 in
theorem to_nodes {va : Value} {n : Nat} {N : Nat → Nd} (w : World) (ha : RowN 0 w va n N) (hn : n ≤ 1048576) (hN : ∀ i, i < n → (N i).p ≤ 1048576 ∧ (N i).q ≤ 1048576) :
    Calls Try.prog 65 #[va] w fun e w' => ∃ v, e = .returned v ∧ RowN w.heap.size w' v n N ∧ Kb 0 w w' := by
  obtain ⟨pa, ca, rfl, ha2⟩ := ha
  have hnI : (n : Int) ≤ 1048576 := by omega
  have hmk := run_make (P := Try.prog) w 68 79 Try.t79 (.agg #[.int .i64 0, .int .i64 0, .int .i64 0, .int .i64 0, .float .f64 0, .string ⟨#[]⟩, .slice none 0 0, .slice none 0 0]) Try.underlying68 (by kernel_rfl) (by kernel_rfl) .i64 .i64 (n : Int) (n : Int) (by omega) (Int.le_refl _) (by show (104 : Int) * (n : Int) ≤ _; omega) (by omega)
  rw [Int.toNat_natCast] at hmk
  obtain ⟨w1, hw1⟩ : ∃ w1, w1 = w.alloc (.cells (madeCells (.agg #[.int .i64 0, .int .i64 0, .int .i64 0, .int .i64 0, .float .f64 0, .string ⟨#[]⟩, .slice none 0 0, .slice none 0 0] : Value).cells (n * 8)) 79) := ⟨_, rfl⟩
  have hmk2 := hmk
  rw [show n * Try.t79.size = n * 8 from rfl, ← hw1] at hmk2
  clear hmk
  have hk1 : Kb 0 w w1 := by rw [hw1]; exact kb_alloc _ _ _
  obtain ⟨G, hG⟩ : ∃ G, G = w.heap.size := ⟨_, rfl⟩
  have HI0 : Hid (∃ E : Nat → List Value, Mk 8 w1 G n E 0 w1 ∧ ∀ j, j < 0 → ∃ vr vk, E j = [.int .i64 (N j).a.k, .int .i64 (N j).a.l, .int .i64 (N j).a.o, .int .i64 (N j).a.m, .float .f64 (N j).a.g, .string (N j).a.x, vr, vk] ∧ RowB (G + 1) w1 vr (N j).p (fun t => .int .i64 ((N j).R t)) ∧ RowB (G + 1) w1 vk (N j).q (fun t => .int .i64 ((N j).K t))) := by
    refine ⟨fun _ => [], ?_, fun j hj => by omega⟩
    rw [hG, hw1]
    exact mk_zero w _ 8 _ n _ rfl
  have HA : Hid ((0 < n → ∃ a : Addr, pa = some a ∧ n ≤ ca ∧ 0 ≤ a.block ∧ ∀ i, i < n → NodeC 0 w (a.add (i * 8)) (N i)) ∧ Kb 0 w w1 ∧ G = w.heap.size ∧ (∀ i, i < n → (N i).p ≤ 1048576 ∧ (N i).q ≤ 1048576)) := (⟨ha2, hk1, hG, hN⟩ : _ ∧ _)
  rw [← hG] at hmk2
  clear ha2 hk1 hw1 hn hG hN
  go_enter Try.func65, Try.ntmps65
  go_wp2_with fail
  go_loopw [4] (fun s4 wr => ∃ i : Nat, s4 = .int .i64 (i : Int) ∧ i ≤ n ∧ Hid (∃ E : Nat → List Value, Mk 8 w1 G n E i wr ∧ ∀ j, j < i → ∃ vr vk, E j = [.int .i64 (N j).a.k, .int .i64 (N j).a.l, .int .i64 (N j).a.o, .int .i64 (N j).a.m, .float .f64 (N j).a.g, .string (N j).a.x, vr, vk] ∧ RowB (G + 1) wr vr (N j).p (fun t => .int .i64 ((N j).R t)) ∧ RowB (G + 1) wr vk (N j).q (fun t => .int .i64 ((N j).K t)))) (fun s4 _ => n - (intOf s4).toNat)
  case atStart => exact ⟨0, rfl, Nat.zero_le _, HI0⟩
  case round =>
    clear HI0 hmk2
    obtain ⟨i, rfl, hin, HI⟩ := hrel
    obtain ⟨E, hM, hR⟩ := (show ∃ E : Nat → List Value, Mk 8 w1 G n E i wr ∧ ∀ j, j < i → ∃ vr vk, E j = [.int .i64 (N j).a.k, .int .i64 (N j).a.l, .int .i64 (N j).a.o, .int .i64 (N j).a.m, .float .f64 (N j).a.g, .string (N j).a.x, vr, vk] ∧ RowB (G + 1) wr vr (N j).p (fun t => .int .i64 ((N j).R t)) ∧ RowB (G + 1) wr vk (N j).q (fun t => .int .i64 ((N j).K t)) from HI)
    have hA := (show (0 < n → ∃ a : Addr, pa = some a ∧ n ≤ ca ∧ 0 ≤ a.block ∧ ∀ i, i < n → NodeC 0 w (a.add (i * 8)) (N i)) ∧ Kb 0 w w1 ∧ G = w.heap.size ∧ (∀ i, i < n → (N i).p ≤ 1048576 ∧ (N i).q ≤ 1048576) from HA)
    have hBW : Kb 0 w wr := by
      have hG := hA.2.2.1
      have hA2 := hA.2.1
      exact ⟨hM.os.trans hA2.os, hM.output.trans hA2.output, Nat.le_trans hA2.size hM.size, fun b _ hb => (hM.block b (Nat.lt_of_lt_of_le hb hA2.size) (by omega)).trans (hA2.block b (Nat.zero_le _) hb)⟩
    rcases Nat.lt_or_ge i n with hi | hi
    · have hiI : (i : Int) < (n : Int) := by omega
      obtain ⟨a, rfl, hca, _, hra⟩ := hA.1 (by omega)
      obtain ⟨vr, vk, hcel, hvr, hvk⟩ := (hra i hi).keep (Nat.zero_le _) hBW
      obtain ⟨y1, y2⟩ := hA.2.2.2 i hi
      obtain ⟨d0, d1, d2, d3, d4, d5, d6, d7⟩ := hcel
      have HT : Hid (Calls Try.prog 87 #[ndv (N i).a vr vk] wr fun e w' => ∃ v0 v1, e = .returned (ndv (N i).a v0 v1) ∧ RowB wr.heap.size w' v0 (N i).p (fun t => .int .i64 ((N i).R t)) ∧ RowB wr.heap.size w' v1 (N i).q (fun t => .int .i64 ((N i).K t)) ∧ Kb 0 wr w') := to_node wr (fun W k => to_ints' W (hvr.keep k).row y1) (fun W k => to_ints' W (hvk.keep k).row y2)
      have HS : Hid (∀ w6 (v0 v1 : Value), Kb 0 wr w6 → RowB wr.heap.size w6 v0 (N i).p (fun t => .int .i64 ((N i).R t)) → RowB wr.heap.size w6 v1 (N i).q (fun t => .int .i64 ((N i).K t)) → (∀ t, t < 8 → ∃ u, w6.cell? ⟨G, i * 8 + t, none⟩ = some u) ∧ (∀ j, w6.frozen? ⟨G, j, none⟩ = false) ∧ ∃ E : Nat → List Value, Mk 8 w1 G n E (i + 1) (setL w6 G (i * 8) [.int .i64 (N i).a.k, .int .i64 (N i).a.l, .int .i64 (N i).a.o, .int .i64 (N i).a.m, .float .f64 (N i).a.g, .string (N i).a.x, v0, v1]) ∧ ∀ j, j < i + 1 → ∃ vr vk, E j = [.int .i64 (N j).a.k, .int .i64 (N j).a.l, .int .i64 (N j).a.o, .int .i64 (N j).a.m, .float .f64 (N j).a.g, .string (N j).a.x, vr, vk] ∧ RowB (G + 1) (setL w6 G (i * 8) [.int .i64 (N i).a.k, .int .i64 (N i).a.l, .int .i64 (N i).a.o, .int .i64 (N i).a.m, .float .f64 (N i).a.g, .string (N i).a.x, v0, v1]) vr (N j).p (fun t => .int .i64 ((N j).R t)) ∧ RowB (G + 1) (setL w6 G (i * 8) [.int .i64 (N i).a.k, .int .i64 (N i).a.l, .int .i64 (N i).a.o, .int .i64 (N i).a.m, .float .f64 (N i).a.g, .string (N i).a.x, v0, v1]) vk (N j).q (fun t => .int .i64 ((N j).K t))) := by
        show ∀ w6 (v0 v1 : Value), _
        intro w6 v0 v1 k6 r0 r1
        have h6 := hM.kb k6
        have hgl := Nat.lt_of_lt_of_le hM.gl hM.size
        have kl : Kb (G + 1) w6 (setL w6 G (i * 8) [.int .i64 (N i).a.k, .int .i64 (N i).a.l, .int .i64 (N i).a.o, .int .i64 (N i).a.m, .float .f64 (N i).a.g, .string (N i).a.x, v0, v1]) := ⟨(setL_os _ _ _ _).1, (setL_os _ _ _ _).2, by rw [setL_size]; exact Nat.le_refl _, fun k h1 _ => setL_block _ _ (by omega) _ _ _⟩
        refine ⟨h6.rest i (Nat.le_refl _) hi, h6.fz, _, h6.step hi rfl, fun j hj => ?_⟩
        by_cases e : j = i
        · subst e
          rw [if_pos rfl]
          exact ⟨v0, v1, rfl, (r0.mono (by omega)).keep kl, (r1.mono (by omega)).keep kl⟩
        · rw [if_neg e]
          obtain ⟨ur, uk, q1, q2, q3⟩ := hR j (by omega)
          exact ⟨ur, uk, q1, (q2.keep (k6.mono (Nat.zero_le _))).keep kl, (q3.keep (k6.mono (Nat.zero_le _))).keep kl⟩
      clear hA HA hM hR HI hra hin hBW hvr hvk y1 y2
      go_wp2_with fail
      refine (show Calls Try.prog 87 #[ndv (N i).a vr vk] wr fun e w' => ∃ v0 v1, e = .returned (ndv (N i).a v0 v1) ∧ RowB wr.heap.size w' v0 (N i).p (fun t => .int .i64 ((N i).R t)) ∧ RowB wr.heap.size w' v1 (N i).q (fun t => .int .i64 ((N i).K t)) ∧ Kb 0 wr w' from HT).mono ?_
      rintro e w6 ⟨v0, v1, rfl, r0, r1, k6⟩
      obtain ⟨hc, hf, hT⟩ := (show ∀ w6 (v0 v1 : Value), _ from HS) w6 v0 v1 k6 r0 r1
      have HTT : Hid (∃ E : Nat → List Value, Mk 8 w1 G n E (i + 1) (setL w6 G (i * 8) [.int .i64 (N i).a.k, .int .i64 (N i).a.l, .int .i64 (N i).a.o, .int .i64 (N i).a.m, .float .f64 (N i).a.g, .string (N i).a.x, v0, v1]) ∧ ∀ j, j < i + 1 → ∃ vr vk, E j = [.int .i64 (N j).a.k, .int .i64 (N j).a.l, .int .i64 (N j).a.o, .int .i64 (N j).a.m, .float .f64 (N j).a.g, .string (N j).a.x, vr, vk] ∧ RowB (G + 1) (setL w6 G (i * 8) [.int .i64 (N i).a.k, .int .i64 (N i).a.l, .int .i64 (N i).a.o, .int .i64 (N i).a.m, .float .f64 (N i).a.g, .string (N i).a.x, v0, v1]) vr (N j).p (fun t => .int .i64 ((N j).R t)) ∧ RowB (G + 1) (setL w6 G (i * 8) [.int .i64 (N i).a.k, .int .i64 (N i).a.l, .int .i64 (N i).a.o, .int .i64 (N i).a.m, .float .f64 (N i).a.g, .string (N i).a.x, v0, v1]) vk (N j).q (fun t => .int .i64 ((N j).K t))) := hT
      obtain ⟨u0, h0⟩ := hc 0 (by omega)
      obtain ⟨u1, h1⟩ := hc 1 (by omega)
      obtain ⟨u2, h2⟩ := hc 2 (by omega)
      obtain ⟨u3, h3⟩ := hc 3 (by omega)
      obtain ⟨u4, h4⟩ := hc 4 (by omega)
      obtain ⟨u5, h5⟩ := hc 5 (by omega)
      obtain ⟨u6, h6⟩ := hc 6 (by omega)
      obtain ⟨u7, h7⟩ := hc 7 (by omega)
      rw [Nat.add_zero] at h0
      have e0 := hf (i * 8)
      have e1 := hf (i * 8 + 1)
      have e2 := hf (i * 8 + 2)
      have e3 := hf (i * 8 + 3)
      have e4 := hf (i * 8 + 4)
      have e5 := hf (i * 8 + 5)
      have e6 := hf (i * 8 + 6)
      have e7 := hf (i * 8 + 7)
      clear hc hf hT HS HT
      obtain ⟨p0, l0, rfl, _⟩ := id r0
      obtain ⟨p1, l1, rfl, _⟩ := id r1
      clear k6 r0 r1 d0 d1 d2 d3 d4 d5 d6 d7
      have hst : ∀ (a : Addr) (n : Nat) (m : Mode) (w : World), (store a (.float .f64 n) m).run Try.prog w = stored Try.prog w a (.float .f64 n) m := fun a n m w => run_store _ _ _ _ _ rfl
      unfold ndv
      go_wp2_with fail
      go_roundw
      case rel => exact ⟨i + 1, by go_num, by omega, HTT⟩
      case measure => simp [intOf]; omega
    · obtain rfl : i = n := by omega
      have HE : Hid (Mk 8 w1 G i E i wr ∧ (∀ j, j < i → ∃ vr vk, E j = [.int .i64 (N j).a.k, .int .i64 (N j).a.l, .int .i64 (N j).a.o, .int .i64 (N j).a.m, .float .f64 (N j).a.g, .string (N j).a.x, vr, vk] ∧ RowB (G + 1) wr vr (N j).p (fun t => .int .i64 ((N j).R t)) ∧ RowB (G + 1) wr vk (N j).q (fun t => .int .i64 ((N j).K t))) ∧ Kb 0 w wr ∧ G = w.heap.size) := (⟨hM, hR, hBW, hA.2.2.1⟩ : _ ∧ _ ∧ _ ∧ _)
      clear HI hM hR hA HA hBW
      go_wp2_with fail
      go_ret
      obtain ⟨hM, hR, hB, hG⟩ := (show Mk 8 w1 G i E i wr ∧ (∀ j, j < i → ∃ vr vk, E j = [.int .i64 (N j).a.k, .int .i64 (N j).a.l, .int .i64 (N j).a.o, .int .i64 (N j).a.m, .float .f64 (N j).a.g, .string (N j).a.x, vr, vk] ∧ RowB (G + 1) wr vr (N j).p (fun t => .int .i64 ((N j).R t)) ∧ RowB (G + 1) wr vk (N j).q (fun t => .int .i64 ((N j).K t))) ∧ Kb 0 w wr ∧ G = w.heap.size from HE)
      refine ⟨_, rfl, ⟨_, _, rfl, fun _ => ⟨⟨G, 0, none⟩, rfl, Nat.le_refl _, (by show w.heap.size ≤ G; omega), fun j hj => ?_⟩⟩, hB⟩
      rw [addr0]
      have hce := hM.ce j hj
      obtain ⟨ur, uk, q1, q2, q3⟩ := hR j hj
      rw [q1] at hce
      exact ⟨ur, uk, CelN.of hce, q2.mono (by omega), q3.mono (by omega)⟩
set_option maxHeartbeats 8000000 in
theorem to_fns {va : Value} {n : Nat} {F : Nat → Fd} (w : World) (ha : RowF 0 w va n F) (hn : n ≤ 1048576) (hF : ∀ i, i < n → (F i).p ≤ 1048576 ∧ (F i).u ≤ 1048576 ∧ (F i).n ≤ 1048576 ∧ ∀ j, j < (F i).n → ((F i).N j).p ≤ 1048576 ∧ ((F i).N j).q ≤ 1048576) :
    Calls Try.prog 20 #[va] w fun e w' => ∃ v, e = .returned v ∧ RowF w.heap.size w' v n F ∧ Kb 0 w w' := by
  obtain ⟨pa, ca, rfl, ha2⟩ := ha
  have hnI : (n : Int) ≤ 1048576 := by omega
  have hmk := run_make (P := Try.prog) w 29 70 Try.t70 (.agg #[.string ⟨#[]⟩, .int .i64 0, .int .i64 0, .bool false, .slice none 0 0, .slice none 0 0, .slice none 0 0]) Try.underlying29 (by kernel_rfl) (by kernel_rfl) .i64 .i64 (n : Int) (n : Int) (by omega) (Int.le_refl _) (by show (112 : Int) * (n : Int) ≤ _; omega) (by omega)
  rw [Int.toNat_natCast] at hmk
  obtain ⟨w1, hw1⟩ : ∃ w1, w1 = w.alloc (.cells (madeCells (.agg #[.string ⟨#[]⟩, .int .i64 0, .int .i64 0, .bool false, .slice none 0 0, .slice none 0 0, .slice none 0 0] : Value).cells (n * 7)) 70) := ⟨_, rfl⟩
  have hmk2 := hmk
  rw [show n * Try.t70.size = n * 7 from rfl, ← hw1] at hmk2
  clear hmk
  have hk1 : Kb 0 w w1 := by rw [hw1]; exact kb_alloc _ _ _
  obtain ⟨G, hG⟩ : ∃ G, G = w.heap.size := ⟨_, rfl⟩
  have HI0 : Hid (∃ E : Nat → List Value, Mk 7 w1 G n E 0 w1 ∧ ∀ j, j < 0 → ∃ vv vu vn, E j = [.string (F j).x, .int .i64 (F j).l, .int .i64 (F j).m, .bool (F j).r, vv, vu, vn] ∧ RowB (G + 1) w1 vv (F j).p (fun t => .string ((F j).V t)) ∧ RowU (G + 1) w1 vu (F j).u (F j).U ∧ RowN (G + 1) w1 vn (F j).n (F j).N) := by
    refine ⟨fun _ => [], ?_, fun j hj => by omega⟩
    rw [hG, hw1]
    exact mk_zero w _ 7 _ n _ rfl
  have HA : Hid ((0 < n → ∃ a : Addr, pa = some a ∧ n ≤ ca ∧ 0 ≤ a.block ∧ ∀ i, i < n → FnC 0 w (a.add (i * 7)) (F i)) ∧ Kb 0 w w1 ∧ G = w.heap.size ∧ (∀ i, i < n → (F i).p ≤ 1048576 ∧ (F i).u ≤ 1048576 ∧ (F i).n ≤ 1048576 ∧ ∀ j, j < (F i).n → ((F i).N j).p ≤ 1048576 ∧ ((F i).N j).q ≤ 1048576)) := (⟨ha2, hk1, hG, hF⟩ : _ ∧ _)
  rw [← hG] at hmk2
  clear ha2 hk1 hw1 hn hG hF
  go_enter Try.func20, Try.ntmps20
  go_wp2_with fail
  go_loopw [4] (fun s4 wr => ∃ i : Nat, s4 = .int .i64 (i : Int) ∧ i ≤ n ∧ Hid (∃ E : Nat → List Value, Mk 7 w1 G n E i wr ∧ ∀ j, j < i → ∃ vv vu vn, E j = [.string (F j).x, .int .i64 (F j).l, .int .i64 (F j).m, .bool (F j).r, vv, vu, vn] ∧ RowB (G + 1) wr vv (F j).p (fun t => .string ((F j).V t)) ∧ RowU (G + 1) wr vu (F j).u (F j).U ∧ RowN (G + 1) wr vn (F j).n (F j).N)) (fun s4 _ => n - (intOf s4).toNat)
  case atStart => exact ⟨0, rfl, Nat.zero_le _, HI0⟩
  case round =>
    clear HI0 hmk2
    obtain ⟨i, rfl, hin, HI⟩ := hrel
    obtain ⟨E, hM, hR⟩ := (show ∃ E : Nat → List Value, Mk 7 w1 G n E i wr ∧ ∀ j, j < i → ∃ vv vu vn, E j = [.string (F j).x, .int .i64 (F j).l, .int .i64 (F j).m, .bool (F j).r, vv, vu, vn] ∧ RowB (G + 1) wr vv (F j).p (fun t => .string ((F j).V t)) ∧ RowU (G + 1) wr vu (F j).u (F j).U ∧ RowN (G + 1) wr vn (F j).n (F j).N from HI)
    have hA := (show (0 < n → ∃ a : Addr, pa = some a ∧ n ≤ ca ∧ 0 ≤ a.block ∧ ∀ i, i < n → FnC 0 w (a.add (i * 7)) (F i)) ∧ Kb 0 w w1 ∧ G = w.heap.size ∧ (∀ i, i < n → (F i).p ≤ 1048576 ∧ (F i).u ≤ 1048576 ∧ (F i).n ≤ 1048576 ∧ ∀ j, j < (F i).n → ((F i).N j).p ≤ 1048576 ∧ ((F i).N j).q ≤ 1048576) from HA)
    have hBW : Kb 0 w wr := by
      have hG := hA.2.2.1
      have hA2 := hA.2.1
      exact ⟨hM.os.trans hA2.os, hM.output.trans hA2.output, Nat.le_trans hA2.size hM.size, fun b _ hb => (hM.block b (Nat.lt_of_lt_of_le hb hA2.size) (by omega)).trans (hA2.block b (Nat.zero_le _) hb)⟩
    rcases Nat.lt_or_ge i n with hi | hi
    · have hiI : (i : Int) < (n : Int) := by omega
      obtain ⟨a, rfl, hca, _, hra⟩ := hA.1 (by omega)
      obtain ⟨vv, vu, vn, hcel, hvv, hvu, hvn⟩ := (hra i hi).keep (Nat.zero_le _) hBW
      obtain ⟨y1, y2, y3, y4⟩ := hA.2.2.2 i hi
      obtain ⟨d0, d1, d2, d3, d4, d5, d6⟩ := hcel
      have HT : Hid (Calls Try.prog 43 #[fnv (F i) vv vu vn] wr fun e w' => ∃ v0 v1 v2, e = .returned (fnv (F i) v0 v1 v2) ∧ RowB wr.heap.size w' v0 (F i).p (fun t => .string ((F i).V t)) ∧ RowU wr.heap.size w' v1 (F i).u (F i).U ∧ RowN wr.heap.size w' v2 (F i).n (F i).N ∧ Kb 0 wr w') := to_fn wr (fun W k => to_strs' W (hvv.keep k).row y1) (fun W k => to_ups W (hvu.keep k) y2) (fun W k => to_nodes W (hvn.keep k) y3 y4)
      have HS : Hid (∀ w6 (v0 v1 v2 : Value), Kb 0 wr w6 → RowB wr.heap.size w6 v0 (F i).p (fun t => .string ((F i).V t)) → RowU wr.heap.size w6 v1 (F i).u (F i).U → RowN wr.heap.size w6 v2 (F i).n (F i).N → (∀ t, t < 7 → ∃ u, w6.cell? ⟨G, i * 7 + t, none⟩ = some u) ∧ (∀ j, w6.frozen? ⟨G, j, none⟩ = false) ∧ ∃ E : Nat → List Value, Mk 7 w1 G n E (i + 1) (setL w6 G (i * 7) [.string (F i).x, .int .i64 (F i).l, .int .i64 (F i).m, .bool (F i).r, v0, v1, v2]) ∧ ∀ j, j < i + 1 → ∃ vv vu vn, E j = [.string (F j).x, .int .i64 (F j).l, .int .i64 (F j).m, .bool (F j).r, vv, vu, vn] ∧ RowB (G + 1) (setL w6 G (i * 7) [.string (F i).x, .int .i64 (F i).l, .int .i64 (F i).m, .bool (F i).r, v0, v1, v2]) vv (F j).p (fun t => .string ((F j).V t)) ∧ RowU (G + 1) (setL w6 G (i * 7) [.string (F i).x, .int .i64 (F i).l, .int .i64 (F i).m, .bool (F i).r, v0, v1, v2]) vu (F j).u (F j).U ∧ RowN (G + 1) (setL w6 G (i * 7) [.string (F i).x, .int .i64 (F i).l, .int .i64 (F i).m, .bool (F i).r, v0, v1, v2]) vn (F j).n (F j).N) := by
        show ∀ w6 (v0 v1 v2 : Value), _
        intro w6 v0 v1 v2 k6 r0 r1 r2
        have h6 := hM.kb k6
        have hgl := Nat.lt_of_lt_of_le hM.gl hM.size
        have kl : Kb (G + 1) w6 (setL w6 G (i * 7) [.string (F i).x, .int .i64 (F i).l, .int .i64 (F i).m, .bool (F i).r, v0, v1, v2]) := ⟨(setL_os _ _ _ _).1, (setL_os _ _ _ _).2, by rw [setL_size]; exact Nat.le_refl _, fun k h1 _ => setL_block _ _ (by omega) _ _ _⟩
        refine ⟨h6.rest i (Nat.le_refl _) hi, h6.fz, _, h6.step hi rfl, fun j hj => ?_⟩
        by_cases e : j = i
        · subst e
          rw [if_pos rfl]
          exact ⟨v0, v1, v2, rfl, (r0.mono (by omega)).keep kl, (r1.mono (by omega)).keep kl, (r2.mono (by omega)).keep kl⟩
        · rw [if_neg e]
          obtain ⟨uv, uu, un, q1, q2, q3, q4⟩ := hR j (by omega)
          exact ⟨uv, uu, un, q1, (q2.keep (k6.mono (Nat.zero_le _))).keep kl, (q3.keep (k6.mono (Nat.zero_le _))).keep kl, (q4.keep (k6.mono (Nat.zero_le _))).keep kl⟩
      clear hA HA hM hR HI hra hin hBW hvv hvu hvn y1 y2 y3 y4
      go_wp2_with fail
      refine (show Calls Try.prog 43 #[fnv (F i) vv vu vn] wr fun e w' => ∃ v0 v1 v2, e = .returned (fnv (F i) v0 v1 v2) ∧ RowB wr.heap.size w' v0 (F i).p (fun t => .string ((F i).V t)) ∧ RowU wr.heap.size w' v1 (F i).u (F i).U ∧ RowN wr.heap.size w' v2 (F i).n (F i).N ∧ Kb 0 wr w' from HT).mono ?_
      rintro e w6 ⟨v0, v1, v2, rfl, r0, r1, r2, k6⟩
      obtain ⟨hc, hf, hT⟩ := (show ∀ w6 (v0 v1 v2 : Value), _ from HS) w6 v0 v1 v2 k6 r0 r1 r2
      have HTT : Hid (∃ E : Nat → List Value, Mk 7 w1 G n E (i + 1) (setL w6 G (i * 7) [.string (F i).x, .int .i64 (F i).l, .int .i64 (F i).m, .bool (F i).r, v0, v1, v2]) ∧ ∀ j, j < i + 1 → ∃ vv vu vn, E j = [.string (F j).x, .int .i64 (F j).l, .int .i64 (F j).m, .bool (F j).r, vv, vu, vn] ∧ RowB (G + 1) (setL w6 G (i * 7) [.string (F i).x, .int .i64 (F i).l, .int .i64 (F i).m, .bool (F i).r, v0, v1, v2]) vv (F j).p (fun t => .string ((F j).V t)) ∧ RowU (G + 1) (setL w6 G (i * 7) [.string (F i).x, .int .i64 (F i).l, .int .i64 (F i).m, .bool (F i).r, v0, v1, v2]) vu (F j).u (F j).U ∧ RowN (G + 1) (setL w6 G (i * 7) [.string (F i).x, .int .i64 (F i).l, .int .i64 (F i).m, .bool (F i).r, v0, v1, v2]) vn (F j).n (F j).N) := hT
      obtain ⟨u0, h0⟩ := hc 0 (by omega)
      obtain ⟨u1, h1⟩ := hc 1 (by omega)
      obtain ⟨u2, h2⟩ := hc 2 (by omega)
      obtain ⟨u3, h3⟩ := hc 3 (by omega)
      obtain ⟨u4, h4⟩ := hc 4 (by omega)
      obtain ⟨u5, h5⟩ := hc 5 (by omega)
      obtain ⟨u6, h6⟩ := hc 6 (by omega)
      rw [Nat.add_zero] at h0
      have e0 := hf (i * 7)
      have e1 := hf (i * 7 + 1)
      have e2 := hf (i * 7 + 2)
      have e3 := hf (i * 7 + 3)
      have e4 := hf (i * 7 + 4)
      have e5 := hf (i * 7 + 5)
      have e6 := hf (i * 7 + 6)
      clear hc hf hT HS HT
      obtain ⟨p0, l0, rfl, _⟩ := id r0
      obtain ⟨p1, l1, rfl, _⟩ := id r1
      obtain ⟨p2, l2, rfl, _⟩ := id r2
      clear k6 r0 r1 r2 d0 d1 d2 d3 d4 d5 d6
      unfold fnv
      go_wp2_with fail
      go_roundw
      case rel => exact ⟨i + 1, by go_num, by omega, HTT⟩
      case measure => simp [intOf]; omega
    · obtain rfl : i = n := by omega
      have HE : Hid (Mk 7 w1 G i E i wr ∧ (∀ j, j < i → ∃ vv vu vn, E j = [.string (F j).x, .int .i64 (F j).l, .int .i64 (F j).m, .bool (F j).r, vv, vu, vn] ∧ RowB (G + 1) wr vv (F j).p (fun t => .string ((F j).V t)) ∧ RowU (G + 1) wr vu (F j).u (F j).U ∧ RowN (G + 1) wr vn (F j).n (F j).N) ∧ Kb 0 w wr ∧ G = w.heap.size) := (⟨hM, hR, hBW, hA.2.2.1⟩ : _ ∧ _ ∧ _ ∧ _)
      clear HI hM hR hA HA hBW
      go_wp2_with fail
      go_ret
      obtain ⟨hM, hR, hB, hG⟩ := (show Mk 7 w1 G i E i wr ∧ (∀ j, j < i → ∃ vv vu vn, E j = [.string (F j).x, .int .i64 (F j).l, .int .i64 (F j).m, .bool (F j).r, vv, vu, vn] ∧ RowB (G + 1) wr vv (F j).p (fun t => .string ((F j).V t)) ∧ RowU (G + 1) wr vu (F j).u (F j).U ∧ RowN (G + 1) wr vn (F j).n (F j).N) ∧ Kb 0 w wr ∧ G = w.heap.size from HE)
      refine ⟨_, rfl, ⟨_, _, rfl, fun _ => ⟨⟨G, 0, none⟩, rfl, Nat.le_refl _, (by show w.heap.size ≤ G; omega), fun j hj => ?_⟩⟩, hB⟩
      rw [addr0]
      have hce := hM.ce j hj
      obtain ⟨uv, uu, un, q1, q2, q3, q4⟩ := hR j hj
      rw [q1] at hce
      exact ⟨uv, uu, un, CelF.of hce, q2.mono (by omega), q3.mono (by omega), q4.mono (by omega)⟩
end Go.Proofs.Ytieccnkabllamaa.Fo
