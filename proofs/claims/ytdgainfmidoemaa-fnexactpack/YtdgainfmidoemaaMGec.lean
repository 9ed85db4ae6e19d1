import Derived.Test.YtdgainfmidoemaaMGeb
import Derived.Test.YtdgainfmidoemaaMGbd
namespace Go.Proofs.Ytdgainfmidoemaa.Fo
open Go.ChangeShapes Go.WideShapes Go.ChangeAt Go.RowKit
set_option linter.unusedVariables false
set_option maxRecDepth 100000
/-- a row of values in a block of its own, not before b -/
def RowX (b : Nat) (W : World) (v : Value) (c : Nat) (C : Nat → Gv) : Prop := RowW b W v c C ∧ ∃ bb, b ≤ bb ∧ bb < W.heap.size ∧ OwV W v bb c
theorem RowX.keep {b : Nat} {W W' : World} {v : Value} {c : Nat} {C : Nat → Gv} (h : RowX b W v c C) (k : Kb b W W') : RowX b W' v c C := by
  obtain ⟨h1, bb, h2, h3, h4⟩ := h
  exact ⟨h1.keep k, bb, h2, Nat.lt_of_lt_of_le h3 k.size, h4.block (fun _ => k.block bb h2 h3)⟩
theorem RowX.mono {b d : Nat} {W : World} {v : Value} {c : Nat} {C : Nat → Gv} (h : RowX b W v c C) (hd : d ≤ b) : RowX d W v c C := by
  obtain ⟨h1, bb, h2, h3⟩ := h
  exact ⟨h1.mono hd, bb, Nat.le_trans hd h2, h3⟩
set_option maxHeartbeats 8000000 in
theorem to_vals2 {va : Value} {n : Nat} {C : Nat → Gv} (w : World) (ha : RowW 0 w va n C) (hn : n ≤ 1048576)  :
    Calls Try.prog 86 #[va] w fun e w' => ∃ v, e = .returned v ∧ RowX w.heap.size w' v n C ∧ Kb 0 w w' := by
  obtain ⟨pa, ca, rfl, ha2⟩ := ha
  have hnI : (n : Int) ≤ 1048576 := by omega
  have hmk := run_make (P := Try.prog) w 54 29 Try.t29 (.agg #[.int .i64 0, .int .i64 0, .string ⟨#[]⟩, .int .i64 0]) Try.underlying54 (by kernel_rfl) (by kernel_rfl) .i64 .i64 (n : Int) (n : Int) (by omega) (Int.le_refl _) (by show (40 : Int) * (n : Int) ≤ _; omega) (by omega)
  rw [Int.toNat_natCast] at hmk
  obtain ⟨w1, hw1⟩ : ∃ w1, w1 = w.alloc (.cells (madeCells (.agg #[.int .i64 0, .int .i64 0, .string ⟨#[]⟩, .int .i64 0] : Value).cells (n * 4)) 29) := ⟨_, rfl⟩
  have hmk2 := hmk
  rw [show n * Try.t29.size = n * 4 from rfl, ← hw1] at hmk2
  clear hmk
  have hk1 : Kb 0 w w1 := by rw [hw1]; exact kb_alloc _ _ _
  obtain ⟨G, hG⟩ : ∃ G, G = w.heap.size := ⟨_, rfl⟩
  have HI0 : Hid (∃ E : Nat → List Value, Mk 4 w1 G n E 0 w1 ∧ ∀ j, j < 0 → E j = [.int .i64 (C j).k, .int .i64 (C j).m, .string (C j).x, .int .i64 (C j).r]) := by
    refine ⟨fun _ => [], ?_, fun j hj => by omega⟩
    rw [hG, hw1]
    exact mk_zero w _ 4 _ n _ rfl
  have HA : Hid ((0 < n → ∃ a : Addr, pa = some a ∧ n ≤ ca ∧ 0 ≤ a.block ∧ ∀ i, i < n → ValC 0 w (a.add (i * 4)) (C i)) ∧ Kb 0 w w1 ∧ G = w.heap.size) := (⟨ha2, hk1, hG⟩ : _ ∧ _)
  rw [← hG] at hmk2
  clear ha2 hk1 hw1 hn hG 
  go_enter Try.func86, Try.ntmps86
  go_wp2_with fail
  go_loopw [4] (fun s4 wr => ∃ i : Nat, s4 = .int .i64 (i : Int) ∧ i ≤ n ∧ Hid (∃ E : Nat → List Value, Mk 4 w1 G n E i wr ∧ ∀ j, j < i → E j = [.int .i64 (C j).k, .int .i64 (C j).m, .string (C j).x, .int .i64 (C j).r])) (fun s4 _ => n - (intOf s4).toNat)
  case atStart => exact ⟨0, rfl, Nat.zero_le _, HI0⟩
  case round =>
    clear HI0 hmk2
    obtain ⟨i, rfl, hin, HI⟩ := hrel
    obtain ⟨E, hM, hR⟩ := (show ∃ E : Nat → List Value, Mk 4 w1 G n E i wr ∧ ∀ j, j < i → E j = [.int .i64 (C j).k, .int .i64 (C j).m, .string (C j).x, .int .i64 (C j).r] from HI)
    have hA := (show (0 < n → ∃ a : Addr, pa = some a ∧ n ≤ ca ∧ 0 ≤ a.block ∧ ∀ i, i < n → ValC 0 w (a.add (i * 4)) (C i)) ∧ Kb 0 w w1 ∧ G = w.heap.size from HA)
    have hBW : Kb 0 w wr := by
      have hG := hA.2.2
      have hA2 := hA.2.1
      exact ⟨hM.os.trans hA2.os, hM.output.trans hA2.output, Nat.le_trans hA2.size hM.size, fun b _ hb => (hM.block b (Nat.lt_of_lt_of_le hb hA2.size) (by omega)).trans (hA2.block b (Nat.zero_le _) hb)⟩
    rcases Nat.lt_or_ge i n with hi | hi
    · have hiI : (i : Int) < (n : Int) := by omega
      obtain ⟨a, rfl, hca, _, hra⟩ := hA.1 (by omega)
      obtain ⟨d0, d1, d2, d3⟩ := (hra i hi).keep (Nat.zero_le _) hBW
      have HT : Hid (Calls Try.prog 36 #[gvv (C i)] wr fun e w' => e = .returned (gvv (C i)) ∧ Kb 0 wr w') := to_val (C i) wr
      have HS : Hid (∀ w6 , Kb 0 wr w6 → (∀ t, t < 4 → ∃ u, w6.cell? ⟨G, i * 4 + t, none⟩ = some u) ∧ (∀ j, w6.frozen? ⟨G, j, none⟩ = false) ∧ ∃ E : Nat → List Value, Mk 4 w1 G n E (i + 1) (setL w6 G (i * 4) [.int .i64 (C i).k, .int .i64 (C i).m, .string (C i).x, .int .i64 (C i).r]) ∧ ∀ j, j < i + 1 → E j = [.int .i64 (C j).k, .int .i64 (C j).m, .string (C j).x, .int .i64 (C j).r]) := by
        show ∀ w6 , _
        intro w6  k6 
        have h6 := hM.kb k6
        have hgl := Nat.lt_of_lt_of_le hM.gl hM.size
        have kl : Kb (G + 1) w6 (setL w6 G (i * 4) [.int .i64 (C i).k, .int .i64 (C i).m, .string (C i).x, .int .i64 (C i).r]) := ⟨(setL_os _ _ _ _).1, (setL_os _ _ _ _).2, by rw [setL_size]; exact Nat.le_refl _, fun k h1 _ => setL_block _ _ (by omega) _ _ _⟩
        refine ⟨h6.rest i (Nat.le_refl _) hi, h6.fz, _, h6.step hi rfl, fun j hj => ?_⟩
        by_cases e : j = i
        · subst e
          exact if_pos rfl
        · rw [if_neg e]
          exact hR j (by omega)
      clear hA HA hM hR HI hra hin hBW 
      go_wp2_with fail
      refine (show Calls Try.prog 36 #[gvv (C i)] wr fun e w' => e = .returned (gvv (C i)) ∧ Kb 0 wr w' from HT).mono ?_
      rintro e w6 ⟨rfl, k6⟩
      obtain ⟨hc, hf, hT⟩ := (show ∀ w6 , _ from HS) w6 k6
      have HTT : Hid (∃ E : Nat → List Value, Mk 4 w1 G n E (i + 1) (setL w6 G (i * 4) [.int .i64 (C i).k, .int .i64 (C i).m, .string (C i).x, .int .i64 (C i).r]) ∧ ∀ j, j < i + 1 → E j = [.int .i64 (C j).k, .int .i64 (C j).m, .string (C j).x, .int .i64 (C j).r]) := hT
      obtain ⟨u0, h0⟩ := hc 0 (by omega)
      obtain ⟨u1, h1⟩ := hc 1 (by omega)
      obtain ⟨u2, h2⟩ := hc 2 (by omega)
      obtain ⟨u3, h3⟩ := hc 3 (by omega)
      rw [Nat.add_zero] at h0
      have e0 := hf (i * 4)
      have e1 := hf (i * 4 + 1)
      have e2 := hf (i * 4 + 2)
      have e3 := hf (i * 4 + 3)
      clear hc hf hT HS HT
      skip
      clear k6 d0 d1 d2 d3
      unfold gvv
      go_wp2_with fail
      go_roundw
      case rel => exact ⟨i + 1, by go_num, by omega, HTT⟩
      case measure => simp [intOf]; omega
    · obtain rfl : i = n := by omega
      have HE : Hid (Mk 4 w1 G i E i wr ∧ (∀ j, j < i → E j = [.int .i64 (C j).k, .int .i64 (C j).m, .string (C j).x, .int .i64 (C j).r]) ∧ Kb 0 w wr ∧ G = w.heap.size) := (⟨hM, hR, hBW, hA.2.2⟩ : _ ∧ _ ∧ _ ∧ _)
      clear HI hM hR hA HA hBW
      go_wp2_with fail
      go_ret
      obtain ⟨hM, hR, hB, hG⟩ := (show Mk 4 w1 G i E i wr ∧ (∀ j, j < i → E j = [.int .i64 (C j).k, .int .i64 (C j).m, .string (C j).x, .int .i64 (C j).r]) ∧ Kb 0 w wr ∧ G = w.heap.size from HE)
      have hcl : ∀ j, j < i → ValC w.heap.size wr ((⟨G, 0, none⟩ : Addr).add (j * 4)) (C j) := fun j hj => by
        rw [addr0]
        have hce := hM.ce j hj
        rw [hR j hj] at hce
        exact CelV.of hce
      refine ⟨_, rfl, ⟨⟨_, _, rfl, fun _ => ⟨⟨G, 0, none⟩, rfl, Nat.le_refl _, (by show w.heap.size ≤ G; omega), hcl⟩⟩, G, by omega, Nat.lt_of_lt_of_le hM.gl hM.size, ⟨_, _, rfl, fun _ => ⟨rfl, Nat.le_refl _, fun j hj => ?_, hM.fz⟩⟩⟩, hB⟩
      have hq : j / 4 < i := by omega
      have hce := hM.ce (j / 4) hq (j % 4) (by omega)
      rw [hR _ hq, show j / 4 * 4 + j % 4 = j by omega] at hce
      have h4 : j % 4 < 4 := by omega
      have : (j % 4) < ([.int .i64 (C (j / 4)).k, .int .i64 (C (j / 4)).m, .string (C (j / 4)).x, .int .i64 (C (j / 4)).r] : List Value).length := h4
      exact ⟨_, hce.trans (List.getElem?_eq_getElem this)⟩
set_option maxHeartbeats 8000000 in
theorem to_thing2 {f : Td} {vc : Value} {c : Nat} {C : Nat → Gv} (w : World)
    (g0 : ∀ W, Kb 0 w W → Calls Try.prog 86 #[vc] W fun e w' => ∃ v, e = .returned v ∧ RowX W.heap.size w' (v) c C ∧ Kb 0 W w') :
    Calls Try.prog 61 #[thv f vc] w fun e w' => ∃ v0, e = .returned (thv f v0) ∧ RowX w.heap.size w' (v0) c C ∧ Kb 0 w w' := by
  have G0 : Hid (∀ W, Kb 0 w W → Calls Try.prog 86 #[vc] W fun e w' => ∃ v, e = .returned v ∧ RowX W.heap.size w' (v) c C ∧ Kb 0 W w') := g0
  clear g0
  unfold thv
  go_enter Try.func61, Try.ntmps61
  go_wp2_with fail
  obtain ⟨w3, hw3⟩ : ∃ w3, w3 = ((w.alloc (.cells #[.int .i64 f.t, vc] 88)).alloc (.cells #[.int .i64 0, .slice none 0 0] 56)).alloc (.cells #[.int .i64 f.t, .slice none 0 0] 56) := ⟨_, rfl⟩
  rw [← hw3]
  obtain ⟨b0, b1, b2, z3, k3⟩ := three_new w _ _ _ _ _ _ w3 hw3
  clear hw3
  refine ((show ∀ W, Kb 0 w W → Calls Try.prog 86 #[vc] W fun e w' => ∃ v, e = .returned v ∧ RowX W.heap.size w' (v) c C ∧ Kb 0 W w' from G0) w3 k3).mono ?_
  rintro e x0 ⟨v0, rfl, r0, q0⟩
  clear G0
  have zq0 := q0.size
  have zz0 : w.heap.size + 3 ≤ w3.heap.size := by omega
  have b0x0 : x0.heap[w.heap.size]? = some (.cells #[.int .i64 f.t, vc] 88 (0, 0)) := (q0.block _ (Nat.zero_le _) (by omega)).trans b0
  have b1x0 : x0.heap[w.heap.size + 1]? = some (.cells #[.int .i64 0, .slice none 0 0] 56 (0, 0)) := (q0.block _ (Nat.zero_le _) (by omega)).trans b1
  have b2x0 : x0.heap[w.heap.size + 1 + 1]? = some (.cells #[.int .i64 f.t, .slice none 0 0] 56 (0, 0)) := (q0.block _ (Nat.zero_le _) (by omega)).trans b2
  clear b0 b1 b2
  obtain ⟨p0, l0, rfl, _⟩ := id r0.1
  have s0 := r0.mono (show w.heap.size + 3 ≤ w3.heap.size by omega)
  have KW := k3.trans q0
  have e0 : x0.cell? ⟨w.heap.size + 1 + 1, 0, none⟩ = some (.int .i64 f.t) := cell_of b2x0 rfl
  have e1 : x0.cell? ⟨w.heap.size + 1 + 1, 1, none⟩ = some (.slice none 0 0) := cell_of b2x0 rfl
  have fz : x0.frozen? ⟨w.heap.size + 1 + 1, 1, none⟩ = false := frozen_of b2x0
  have a0 : x0.cell? ⟨w.heap.size + 1, 0, none⟩ = some (.int .i64 0) := cell_of b1x0 rfl
  have a1 : x0.cell? ⟨w.heap.size + 1, 1, none⟩ = some (.slice none 0 0) := cell_of b1x0 rfl
  have fy : ∀ j, x0.frozen? ⟨w.heap.size + 1, j, none⟩ = false := fun j => frozen_of b1x0
  have HE : Hid (Kb 0 w x0 ∧ RowX (w.heap.size + 3) x0 (.slice p0 c l0) c C) := (⟨KW, s0⟩ : _ ∧ _)
  clear KW s0 b0x0 b1x0 b2x0 r0 q0 zq0 zz0 k3 z3
  go_wp2_with fail
  refine bodyPost_ret (by simp [results, Try.results61, go_sem, a0, a1]; rfl) rfl ?_
  obtain ⟨KW, s0⟩ := (show Kb 0 w x0 ∧ RowX (w.heap.size + 3) x0 (.slice p0 c l0) c C from HE)
  clear HE
  have hq := (((Kb.refl (w.heap.size + 3) x0).setCell ⟨w.heap.size + 1 + 1, 1, none⟩ (Or.inl (show w.heap.size + 1 + 1 < w.heap.size + 3 by omega)) (.slice p0 c l0)).setCell ⟨w.heap.size + 1, 0, none⟩ (Or.inl (show w.heap.size + 1 < w.heap.size + 3 by omega)) (.int .i64 f.t)).setCell ⟨w.heap.size + 1, 1, none⟩ (Or.inl (show w.heap.size + 1 < w.heap.size + 3 by omega)) (.slice p0 c l0)
  have hk := (((KW).setCell ⟨w.heap.size + 1 + 1, 1, none⟩ (Or.inr (show w.heap.size ≤ w.heap.size + 1 + 1 by omega)) (.slice p0 c l0)).setCell ⟨w.heap.size + 1, 0, none⟩ (Or.inr (show w.heap.size ≤ w.heap.size + 1 by omega)) (.int .i64 f.t)).setCell ⟨w.heap.size + 1, 1, none⟩ (Or.inr (show w.heap.size ≤ w.heap.size + 1 by omega)) (.slice p0 c l0)
  exact ⟨_, rfl, (s0.keep hq).mono (by omega), hk⟩
def RowTX (b : Nat) (W : World) (v : Value) (n : Nat) (F : Nat → Td) : Prop := RowT b W v n F ∧ ∃ g V G, OwG b W.heap.size W v n (fun i => (F i).c) g V G
theorem OwG.wide {L H L' H' : Nat} {W : World} {v : Value} {n : Nat} {c : Nat → Nat} {g : Nat} {V : Nat → Value} {G : Nat → Nat} (h : OwG L H W v n c g V G) (hL : L' ≤ L) (hH : H ≤ H') : OwG L' H' W v n c g V G :=
  ⟨h.sl, fun hn => ⟨Nat.le_trans hL (h.bg hn).1, Nat.lt_of_lt_of_le (h.bg hn).2 hH⟩, h.tg, h.rw, h.fz, h.ow, fun i hi hc => ⟨Nat.le_trans hL (h.lo i hi hc).1, Nat.lt_of_lt_of_le (h.lo i hi hc).2.1 hH, (h.lo i hi hc).2.2⟩, h.di⟩
theorem RowTX.keep {b : Nat} {W W' : World} {v : Value} {n : Nat} {F : Nat → Td} (h : RowTX b W v n F) (k : Kb b W W') : RowTX b W' v n F := by
  obtain ⟨h1, g, V, G, h2⟩ := h
  exact ⟨h1.keep k, g, V, G, (h2.block (fun q h3 h4 => k.block q h3 h4)).wide (Nat.le_refl _) k.size⟩
theorem RowTX.mono {b d : Nat} {W : World} {v : Value} {n : Nat} {F : Nat → Td} (h : RowTX b W v n F) (hd : d ≤ b) : RowTX d W v n F := by
  obtain ⟨h1, g, V, G, h2⟩ := h
  exact ⟨h1.mono hd, g, V, G, h2.wide hd (Nat.le_refl _)⟩
/-- nodes being copied: i are done -/
def Tst (w1 : World) (G n : Nat) (F : Nat → Td) (i : Nat) (W : World) : Prop := ∃ (E : Nat → List Value) (V : Nat → Value) (Gf : Nat → Nat), Mk 2 w1 G n E i W ∧ (∀ j, j < i → E j = [.int .i64 (F j).t, V j] ∧ RowW (G + 1) W (V j) (F j).c (F j).C ∧ OwV W (V j) (Gf j) (F j).c ∧ G + 1 ≤ Gf j ∧ Gf j < W.heap.size) ∧ ∀ j j', j < j' → j' < i → Gf j < Gf j'
theorem Tst.step {w1 : World} {G n : Nat} {F : Nat → Td} {i : Nat} {wr w6 : World} {v0 : Value} (h : Tst w1 G n F i wr) (hi : i < n) (k6 : Kb 0 wr w6) (r0 : RowX wr.heap.size w6 v0 (F i).c (F i).C) : (∀ t, t < 2 → ∃ u, w6.cell? ⟨G, i * 2 + t, none⟩ = some u) ∧ (∀ j, w6.frozen? ⟨G, j, none⟩ = false) ∧ Tst w1 G n F (i + 1) (setL w6 G (i * 2) [.int .i64 (F i).t, v0]) := by
  obtain ⟨E, V, Gf, hM, hR, hO⟩ := h
  have h6 := hM.kb k6
  have hgl := Nat.lt_of_lt_of_le hM.gl hM.size
  have kl : Kb (G + 1) w6 (setL w6 G (i * 2) [.int .i64 (F i).t, v0]) := ⟨(setL_os _ _ _ _).1, (setL_os _ _ _ _).2, by rw [setL_size]; exact Nat.le_refl _, fun k h1 _ => setL_block _ _ (by omega) _ _ _⟩
  obtain ⟨q1, bb, q2, q3, q4⟩ := (r0.mono (show G + 1 ≤ wr.heap.size by omega)).keep kl
  obtain ⟨_, bb', q2', q3', q4'⟩ := r0
  refine ⟨h6.rest i (Nat.le_refl _) hi, h6.fz, _, fun j => if j = i then v0 else V j, fun j => if j = i then bb' else Gf j, h6.step hi rfl, fun j hj => ?_, fun j j' h1 h2 => ?_⟩
  · by_cases e : j = i
    · subst e
      simp only [↓reduceIte]
      exact ⟨trivial, q1, q4'.block (fun _ => kl.block bb' (by omega) q3'), by omega, by rw [setL_size]; exact q3'⟩
    · simp only [if_neg e]
      obtain ⟨p1, p2, p3, p4, p5⟩ := hR j (by omega)
      have hs := k6.size
      exact ⟨p1, (p2.keep (k6.mono (Nat.zero_le _))).keep kl, p3.block (fun _ => (kl.block _ p4 (by omega)).trans (k6.block _ (Nat.zero_le _) p5)), p4, by rw [setL_size]; omega⟩
  · show (if j = i then bb' else Gf j) < (if j' = i then bb' else Gf j')
    rw [if_neg (by omega)]
    by_cases e : j' = i
    · subst e
      rw [if_pos rfl]
      obtain ⟨_, _, _, _, p5⟩ := hR j h1
      omega
    · rw [if_neg e]
      exact hO j j' h1 (by omega)
theorem Tst.row {w1 : World} {G n : Nat} {F : Nat → Td} {W : World} (h : Tst w1 G n F n W) : RowTX G W (.slice (some ⟨G, 0, none⟩) n n) n F := by
  obtain ⟨E, V, Gf, hM, hR, hO⟩ := h
  have hgl := Nat.lt_of_lt_of_le hM.gl hM.size
  refine ⟨⟨_, _, rfl, fun _ => ⟨⟨G, 0, none⟩, rfl, Nat.le_refl _, Nat.le_refl _, fun j hj => ?_⟩⟩, G, V, Gf, ⟨⟨_, _, rfl, fun _ => ⟨rfl, Nat.le_refl _⟩⟩, fun _ => ⟨Nat.le_refl _, hgl⟩, fun j hj => ?_, fun j hj => ?_, fun _ => hM.fz, fun j hj => (hR j hj).2.2.1, fun j hj _ => ?_, fun j j' h1 h2 hne _ _ => ?_⟩⟩
  · rw [addr0]
    have hce := hM.ce j hj
    obtain ⟨q1, q2, _⟩ := hR j hj
    rw [q1] at hce
    exact ⟨V j, CelT.of hce, q2.mono (by omega)⟩
  · have hce := hM.ce j hj 0 (by omega)
    rw [(hR j hj).1] at hce
    exact ⟨_, hce⟩
  · have hce := hM.ce j hj 1 (by omega)
    rw [(hR j hj).1] at hce
    exact hce
  · obtain ⟨_, _, _, p4, p5⟩ := hR j hj
    exact ⟨by omega, p5, by omega⟩
  · rcases Nat.lt_or_gt_of_ne hne with q | q
    · have := hO j j' q h2; omega
    · have := hO j' j q h1; omega
set_option maxHeartbeats 8000000 in
theorem to_things2 {va : Value} {n : Nat} {F : Nat → Td} (w : World) (ha : RowT 0 w va n F) (hn : n ≤ 1048576) (hF : ∀ i, i < n → (F i).c ≤ 1048576) :
    Calls Try.prog 37 #[va] w fun e w' => ∃ v, e = .returned v ∧ RowTX w.heap.size w' v n F ∧ Kb 0 w w' := by
  obtain ⟨pa, ca, rfl, ha2⟩ := ha
  have hnI : (n : Int) ≤ 1048576 := by omega
  have hmk := run_make (P := Try.prog) w 30 56 Try.t56 (.agg #[.int .i64 0, .slice none 0 0]) Try.underlying30 (by kernel_rfl) (by kernel_rfl) .i64 .i64 (n : Int) (n : Int) (by omega) (Int.le_refl _) (by show (32 : Int) * (n : Int) ≤ _; omega) (by omega)
  rw [Int.toNat_natCast] at hmk
  obtain ⟨w1, hw1⟩ : ∃ w1, w1 = w.alloc (.cells (madeCells (.agg #[.int .i64 0, .slice none 0 0] : Value).cells (n * 2)) 56) := ⟨_, rfl⟩
  have hmk2 := hmk
  rw [show n * Try.t56.size = n * 2 from rfl, ← hw1] at hmk2
  clear hmk
  have hk1 : Kb 0 w w1 := by rw [hw1]; exact kb_alloc _ _ _
  obtain ⟨G, hG⟩ : ∃ G, G = w.heap.size := ⟨_, rfl⟩
  have HI0 : Hid (Tst w1 G n F 0 w1) := by
    refine (⟨fun _ => [], fun _ => .slice none 0 0, fun _ => 0, ?_, fun j hj => by omega, fun j j' _ hj => by omega⟩ : Tst w1 G n F 0 w1)
    rw [hG, hw1]
    exact mk_zero w _ 2 _ n _ rfl
  have HA : Hid ((0 < n → ∃ a : Addr, pa = some a ∧ n ≤ ca ∧ 0 ≤ a.block ∧ ∀ i, i < n → ThC 0 w (a.add (i * 2)) (F i)) ∧ Kb 0 w w1 ∧ G = w.heap.size ∧ (∀ i, i < n → (F i).c ≤ 1048576)) := (⟨ha2, hk1, hG, hF⟩ : _ ∧ _)
  rw [← hG] at hmk2
  clear ha2 hk1 hw1 hn hG hF
  go_enter Try.func37, Try.ntmps37
  go_wp2_with fail
  go_loopw [4] (fun s4 wr => ∃ i : Nat, s4 = .int .i64 (i : Int) ∧ i ≤ n ∧ Hid (Tst w1 G n F i wr)) (fun s4 _ => n - (intOf s4).toNat)
  case atStart => exact ⟨0, rfl, Nat.zero_le _, HI0⟩
  case round =>
    clear HI0 hmk2
    obtain ⟨i, rfl, hin, HI⟩ := hrel
    have hT0 := (show Tst w1 G n F i wr from HI)
    obtain ⟨E, V, Gf, hM, hR, hO⟩ := id hT0
    have hA := (show (0 < n → ∃ a : Addr, pa = some a ∧ n ≤ ca ∧ 0 ≤ a.block ∧ ∀ i, i < n → ThC 0 w (a.add (i * 2)) (F i)) ∧ Kb 0 w w1 ∧ G = w.heap.size ∧ (∀ i, i < n → (F i).c ≤ 1048576) from HA)
    have hBW : Kb 0 w wr := by
      have hG := hA.2.2.1
      have hA2 := hA.2.1
      exact ⟨hM.os.trans hA2.os, hM.output.trans hA2.output, Nat.le_trans hA2.size hM.size, fun b _ hb => (hM.block b (Nat.lt_of_lt_of_le hb hA2.size) (by omega)).trans (hA2.block b (Nat.zero_le _) hb)⟩
    rcases Nat.lt_or_ge i n with hi | hi
    · have hiI : (i : Int) < (n : Int) := by omega
      obtain ⟨a, rfl, hca, _, hra⟩ := hA.1 (by omega)
      obtain ⟨vc, hcel, hvc⟩ := (hra i hi).keep (Nat.zero_le _) hBW
      have y1 := hA.2.2.2 i hi
      obtain ⟨d0, d1⟩ := hcel
      have HT : Hid (Calls Try.prog 61 #[thv (F i) vc] wr fun e w' => ∃ v0, e = .returned (thv (F i) v0) ∧ RowX wr.heap.size w' v0 (F i).c (F i).C ∧ Kb 0 wr w') := to_thing2 wr (fun W k => to_vals2 W (hvc.keep k) y1)
      have HS : Hid (∀ w6 (v0 : Value), Kb 0 wr w6 → RowX wr.heap.size w6 v0 (F i).c (F i).C → (∀ t, t < 2 → ∃ u, w6.cell? ⟨G, i * 2 + t, none⟩ = some u) ∧ (∀ j, w6.frozen? ⟨G, j, none⟩ = false) ∧ Tst w1 G n F (i + 1) (setL w6 G (i * 2) [.int .i64 (F i).t, v0])) := by
        show ∀ w6 (v0 : Value), _
        intro w6 v0 k6 r0
        exact hT0.step hi k6 r0
      clear hA HA hM hR hO hT0 HI hra hin hBW hvc y1
      go_wp2_with fail
      refine (show Calls Try.prog 61 #[thv (F i) vc] wr fun e w' => ∃ v0, e = .returned (thv (F i) v0) ∧ RowX wr.heap.size w' v0 (F i).c (F i).C ∧ Kb 0 wr w' from HT).mono ?_
      rintro e w6 ⟨v0, rfl, r0, k6⟩
      obtain ⟨hc, hf, hT⟩ := (show ∀ w6 (v0 : Value), _ from HS) w6 v0 k6 r0
      have HTT : Hid (Tst w1 G n F (i + 1) (setL w6 G (i * 2) [.int .i64 (F i).t, v0])) := hT
      obtain ⟨u0, h0⟩ := hc 0 (by omega)
      obtain ⟨u1, h1⟩ := hc 1 (by omega)
      rw [Nat.add_zero] at h0
      have e0 := hf (i * 2)
      have e1 := hf (i * 2 + 1)
      clear hc hf hT HS HT
      obtain ⟨p0, l0, rfl, _⟩ := id r0.1
      clear k6 r0 d0 d1
      unfold thv
      go_wp2_with fail
      go_roundw
      case rel => exact ⟨i + 1, by go_num, by omega, HTT⟩
      case measure => simp [intOf]; omega
    · obtain rfl : i = n := by omega
      have HE : Hid (Tst w1 G i F i wr ∧ Kb 0 w wr ∧ G = w.heap.size) := (⟨hT0, hBW, hA.2.2.1⟩ : _ ∧ _)
      clear HI hM hR hA HA hBW hT0 hO
      go_wp2_with fail
      go_ret
      obtain ⟨hT, hB, hG⟩ := (show Tst w1 G i F i wr ∧ Kb 0 w wr ∧ G = w.heap.size from HE)
      subst hG
      exact ⟨_, rfl, hT.row, hB⟩
end Go.Proofs.Ytdgainfmidoemaa.Fo
