import Derived.Test.YtiojjejphdhpeaaMDac
namespace Go.Proofs.Ytiojjejphdhpeaa.Fo
open Go.ChangeShapes Go.WideShapes Go.ChangeAt Go.RowKit
set_option linter.unusedVariables false
set_option maxRecDepth 100000
/-- elements being copied: i of them are made -/
def TsE (K : Nat) (w1 : World) (g n : Nat) (F : Nat → Ed) (i : Nat) (wr : World) : Prop := ∃ (V : Nat → Value) (G : Nat → Nat), Mk K w1 g n (fun j => hdl K (F j) ++ [V j]) i wr ∧ (∀ j, j < i → OwnR wr (V j) (G j) (F j).c (ub (F j).A) ∧ w1.heap.size ≤ G j ∧ G j < wr.heap.size) ∧ (∀ j j', j < i → j' < i → j ≠ j' → G j ≠ G j')
theorem TsE.step {K : Nat} {w1 : World} {g n : Nat} {F : Nat → Ed} {i : Nat} {wr w6 : World} {v0 : Value} {b0 : Nat} (hK : K = 1 ∨ K = 2 ∨ K = 3) (h : TsE K w1 g n F i wr) (hi : i < n) (k6 : Kb 0 wr w6) (o : OwnR w6 v0 b0 (F i).c (ub (F i).A)) (hb : wr.heap.size ≤ b0 ∧ b0 < w6.heap.size) :
    (∀ t, t < K → ∃ u, w6.cell? ⟨g, i * K + t, none⟩ = some u) ∧ (∀ j, w6.frozen? ⟨g, j, none⟩ = false) ∧ TsE K w1 g n F (i + 1) (setL w6 g (i * K) (hdl K (F i) ++ [v0])) := by
  obtain ⟨V, G, hM, hR, hD⟩ := h
  have h6 := hM.kb k6
  refine ⟨h6.rest i (Nat.le_refl _) hi, h6.fz, fun j => if j = i then v0 else V j, fun j => if j = i then b0 else G j, ?_, fun j hj => ?_, fun j j' hj hj' hne => ?_⟩
  · have hs := h6.step hi (hd_len hK (F i) v0)
    have e : (fun j => if j = i then hdl K (F i) ++ [v0] else hdl K (F j) ++ [V j]) = (fun j => hdl K (F j) ++ [if j = i then v0 else V j]) := by
      funext j
      by_cases q : j = i
      · subst q; rw [if_pos rfl, if_pos rfl]
      · rw [if_neg q, if_neg q]
    rw [← e]
    exact hs
  · have hgl := hM.gl
    have hsz := hM.size
    have hfar : ∀ q, q ≠ g → (setL w6 g (i * K) (hdl K (F i) ++ [v0])).heap[q]? = w6.heap[q]? := fun q hq => setL_block _ _ hq _ _ _
    rw [setL_size]
    dsimp only
    by_cases q : j = i
    · subst q
      rw [if_pos rfl, if_pos rfl]
      exact ⟨o.kb (fun _ => hfar b0 (by omega)), by omega, hb.2⟩
    · rw [if_neg q, if_neg q]
      obtain ⟨r1, r2, r3⟩ := hR j (by omega)
      have := k6.size
      exact ⟨r1.kb (fun _ => (hfar _ (by omega)).trans (k6.block _ (Nat.zero_le _) r3)), r2, by omega⟩
  · dsimp only
    by_cases q : j = i
    · subst q
      rw [if_pos rfl, if_neg (fun e => hne e.symm)]
      have := (hR j' (by omega)).2.2
      omega
    · rw [if_neg q]
      by_cases q' : j' = i
      · subst q'
        rw [if_pos rfl]
        have := (hR j (by omega)).2.2
        omega
      · rw [if_neg q']
        exact hD j j' (by omega) (by omega) hne
theorem TsE.own {K : Nat} {w1 : World} {g n cap : Nat} {F : Nat → Ed} {wr : World} (h : TsE K w1 g n F n wr) (hc : n ≤ cap) (hg : w1.heap.size = g + 1) : ∃ V G, OwE K g wr.heap.size wr (.slice (some ⟨g, 0, none⟩) n cap) n F g V G := by
  obtain ⟨V, G, hM, hR, hD⟩ := h
  have := hM.size
  exact ⟨V, G, ⟨_, _, rfl, fun _ => ⟨rfl, hc⟩⟩, fun _ => ⟨Nat.le_refl _, by omega⟩, hM.ce, fun _ => hM.fz, fun i hi => (hR i hi).1, fun i hi hc => ⟨by have := (hR i hi).2.1; omega, (hR i hi).2.2, by have := (hR i hi).2.1; omega⟩, fun i j hi hj hne _ _ => hD i j hi hj hne⟩
theorem to_bytsK {va : Value} {n : Nat} {A : Nat → Int} (w : World) (ha : RowB 0 w va n (ub A)) (hn : n ≤ 1048576) :
    Calls Try.prog 12 #[va] w fun e w' => ∃ v b, e = .returned v ∧ OwnR w' v b n (ub A) ∧ (w.heap.size ≤ b ∧ b < w'.heap.size) ∧ Kb 0 w w' := (to_byts w ha.row hn).mono (fun e w' ⟨v, h1, h2, h3, h4⟩ => ⟨v, w.heap.size, h1, h2, ⟨Nat.le_refl _, h4⟩, Kb.of_below h3 0⟩)
set_option maxHeartbeats 8000000 in
theorem to_row1 {va : Value} {n : Nat} {F : Nat → Ed} (w : World) (ha : RowE 1 0 w va n F) (hn : n ≤ 1048576) (hF : ∀ i, i < n → (F i).c ≤ 1048576) :
    Calls Try.prog 46 #[va] w fun e w' => ∃ v g V G, e = .returned v ∧ OwE 1 w.heap.size w'.heap.size w' v n F g V G ∧ Kb 0 w w' := by
  obtain ⟨pa, ca, rfl, ha2⟩ := ha
  have hnI : (n : Int) ≤ 1048576 := by omega
  have hmk := run_make (P := Try.prog) w 22 26 Try.t26 (.slice none 0 0) Try.underlying22 (by kernel_rfl) (by kernel_rfl) .i64 .i64 (n : Int) (n : Int) (by omega) (Int.le_refl _) (by show (24 : Int) * (n : Int) ≤ _; omega) (by omega)
  rw [Int.toNat_natCast] at hmk
  obtain ⟨w1, hw1⟩ : ∃ w1, w1 = w.alloc (.cells (madeCells (.slice none 0 0 : Value).cells (n * 1)) 26) := ⟨_, rfl⟩
  have hmk2 := hmk
  rw [show n * Try.t26.size = n * 1 from rfl, ← hw1] at hmk2
  clear hmk
  have hk1 : Kb 0 w w1 := by rw [hw1]; exact kb_alloc _ _ _
  have hz1 : w1.heap.size = w.heap.size + 1 := by rw [hw1]; simp
  obtain ⟨G, hG⟩ : ∃ G, G = w.heap.size := ⟨_, rfl⟩
  have HI0 : Hid (TsE 1 w1 G n F 0 w1) := by
    refine (⟨fun _ => .slice none 0 0, fun _ => 0, ?_, fun j hj => by omega, fun j j' hj => by omega⟩ : TsE 1 w1 G n F 0 w1)
    rw [hG, hw1]
    exact mk_zero w _ 1 _ n _ rfl
  have HA : Hid ((0 < n → ∃ a : Addr, pa = some a ∧ n ≤ ca ∧ 0 ≤ a.block ∧ ∀ i, i < n → ElC 1 0 w (a.add (i * 1)) (F i)) ∧ Kb 0 w w1 ∧ G = w.heap.size ∧ w1.heap.size = G + 1 ∧ (∀ i, i < n → (F i).c ≤ 1048576)) := (⟨ha2, hk1, hG, by omega, hF⟩ : _ ∧ _)
  rw [← hG] at hmk2
  clear ha2 hk1 hw1 hn hG hF hz1
  go_enter Try.func46, Try.ntmps46
  go_wp2_with fail
  go_loopw [4] (fun s4 wr => ∃ i : Nat, s4 = .int .i64 (i : Int) ∧ i ≤ n ∧ Hid (TsE 1 w1 G n F i wr)) (fun s4 _ => n - (intOf s4).toNat)
  case atStart => exact ⟨0, rfl, Nat.zero_le _, HI0⟩
  case round =>
    clear HI0 hmk2
    obtain ⟨i, rfl, hin, HI⟩ := hrel
    have hT0 := (show TsE 1 w1 G n F i wr from HI)
    obtain ⟨V, Gf, hM, hR, hD⟩ := id hT0
    have hA := (show (0 < n → ∃ a : Addr, pa = some a ∧ n ≤ ca ∧ 0 ≤ a.block ∧ ∀ i, i < n → ElC 1 0 w (a.add (i * 1)) (F i)) ∧ Kb 0 w w1 ∧ G = w.heap.size ∧ w1.heap.size = G + 1 ∧ (∀ i, i < n → (F i).c ≤ 1048576) from HA)
    have hBW : Kb 0 w wr := by
      have hG := hA.2.2.1
      have hA2 := hA.2.1
      exact ⟨hM.os.trans hA2.os, hM.output.trans hA2.output, Nat.le_trans hA2.size hM.size, fun b _ hb => (hM.block b (Nat.lt_of_lt_of_le hb hA2.size) (by omega)).trans (hA2.block b (Nat.zero_le _) hb)⟩
    rcases Nat.lt_or_ge i n with hi | hi
    · have hiI : (i : Int) < (n : Int) := by omega
      obtain ⟨a, rfl, hca, _, hra⟩ := hA.1 (by omega)
      obtain ⟨vc, x0, xt, hvc⟩ := (hra i hi).keep (.inl rfl) (Nat.zero_le _) hBW
      have y1 := hA.2.2.2.2 i hi
      obtain ⟨q0, r0, rfl, -⟩ := id hvc
      have d0 : wr.cell? (a.add i) = some (.slice q0 (F i).c r0) := by have := x0; rw [Nat.mul_one] at this; exact this
      have HT : Hid (Calls Try.prog 12 #[.slice q0 (F i).c r0] wr fun e w' => ∃ v0 b, e = .returned (v0) ∧ OwnR w' v0 b (F i).c (ub (F i).A) ∧ (wr.heap.size ≤ b ∧ b < w'.heap.size) ∧ Kb 0 wr w') := to_bytsK wr hvc y1
      have HS : Hid (∀ w6 (v0 : Value) (b0 : Nat), Kb 0 wr w6 → OwnR w6 v0 b0 (F i).c (ub (F i).A) → (wr.heap.size ≤ b0 ∧ b0 < w6.heap.size) → (∀ t, t < 1 → ∃ u, w6.cell? ⟨G, i * 1 + t, none⟩ = some u) ∧ (∀ j, w6.frozen? ⟨G, j, none⟩ = false) ∧ TsE 1 w1 G n F (i + 1) (setL w6 G (i * 1) (hdl 1 (F i) ++ [v0]))) := (fun w6 v0 b0 k6 o hb => hT0.step (.inl rfl) hi k6 o hb : ∀ w6 (v0 : Value) (b0 : Nat), _)
      clear hA HA hM hR hD hT0 HI hra hin hBW hvc y1 x0 xt
      go_wp2_with fail
      refine (show Calls Try.prog 12 #[.slice q0 (F i).c r0] wr fun e w' => ∃ v0 b, e = .returned (v0) ∧ OwnR w' v0 b (F i).c (ub (F i).A) ∧ (wr.heap.size ≤ b ∧ b < w'.heap.size) ∧ Kb 0 wr w' from HT).mono ?_
      rintro e w6 ⟨v0, b0, rfl, o6, hb6, k6⟩
      obtain ⟨hc, hf, hT⟩ := (show ∀ w6 (v0 : Value) (b0 : Nat), _ from HS) w6 v0 b0 k6 o6 hb6
      obtain ⟨u0, hu0⟩ := hc 0 (by omega)
      have h0 : w6.cell? ⟨G, i, none⟩ = some u0 := by have := hu0; rw [Nat.mul_one, Nat.add_zero] at this; exact this
      have f0 : w6.frozen? ⟨G, i, none⟩ = false := hf i
      obtain ⟨p0, l0, rfl, _⟩ := id o6.sl
      have HTT : Hid (TsE 1 w1 G n F (i + 1) (w6.setCell ⟨G, i, none⟩ (.slice p0 (F i).c l0))) := by rw [Nat.mul_one] at hT; exact hT
      clear hc hf hT HS HT k6 o6 hb6 d0 hu0
      go_wp2_with fail
      go_roundw
      case rel => exact ⟨i + 1, by go_num, by omega, HTT⟩
      case measure => simp [intOf]; omega
    · obtain rfl : i = n := by omega
      have HE : Hid (TsE 1 w1 G i F i wr ∧ Kb 0 w wr ∧ G = w.heap.size ∧ w1.heap.size = G + 1) := (⟨hT0, hBW, hA.2.2.1, hA.2.2.2.1⟩ : _ ∧ _)
      clear HI hM hR hD hA HA hBW hT0
      go_wp2_with fail
      go_ret
      obtain ⟨hT, hB, hG, hz⟩ := (show _ ∧ _ ∧ _ ∧ _ from HE)
      obtain ⟨V, Gf, ho⟩ := hT.own (Nat.le_refl i) hz
      subst hG
      exact ⟨_, _, V, Gf, rfl, ho, hB⟩
set_option maxHeartbeats 8000000 in
theorem to_el2 {f : Ed} {vc : Value} {c : Nat} {A : Nat → Int} (w : World)
    (g0 : ∀ W, Kb 0 w W → Calls Try.prog 12 #[vc] W fun e w' => ∃ v b, e = .returned v ∧ OwnR w' v b c (ub A) ∧ (W.heap.size ≤ b ∧ b < w'.heap.size) ∧ Kb 0 W w') :
    Calls Try.prog 80 #[.agg #[.int .i64 f.b, vc]] w fun e w' => ∃ v0 b, e = .returned (.agg #[.int .i64 f.b, v0]) ∧ OwnR w' v0 b c (ub A) ∧ (w.heap.size ≤ b ∧ b < w'.heap.size) ∧ Kb 0 w w' := by
  have G0 : Hid (∀ W, Kb 0 w W → Calls Try.prog 12 #[vc] W fun e w' => ∃ v b, e = .returned v ∧ OwnR w' v b c (ub A) ∧ (W.heap.size ≤ b ∧ b < w'.heap.size) ∧ Kb 0 W w') := g0
  clear g0
  go_enter Try.func80, Try.ntmps80
  go_wp2_with fail
  obtain ⟨w3, hw3⟩ : ∃ w3, w3 = ((w.alloc (.cells #[.int .i64 f.b, vc] 108)).alloc (.cells #[.int .i64 0, .slice none 0 0] 71)).alloc (.cells #[.int .i64 f.b, .slice none 0 0] 71) := ⟨_, rfl⟩
  rw [← hw3]
  obtain ⟨b0, b1, b2, z3, k3⟩ := three_new w _ _ _ _ _ _ w3 hw3
  clear hw3
  refine ((show ∀ W, Kb 0 w W → Calls Try.prog 12 #[vc] W fun e w' => ∃ v b, e = .returned v ∧ OwnR w' v b c (ub A) ∧ (W.heap.size ≤ b ∧ b < w'.heap.size) ∧ Kb 0 W w' from G0) w3 k3).mono ?_
  rintro e x0 ⟨v0, bb, rfl, r0, hbb, q0⟩
  clear G0
  have zq0 := q0.size
  have b1x0 : x0.heap[w.heap.size + 1]? = some (.cells #[.int .i64 0, .slice none 0 0] 71 (0, 0)) := (q0.block _ (Nat.zero_le _) (by omega)).trans b1
  have b2x0 : x0.heap[w.heap.size + 1 + 1]? = some (.cells #[.int .i64 f.b, .slice none 0 0] 71 (0, 0)) := (q0.block _ (Nat.zero_le _) (by omega)).trans b2
  clear b0 b1 b2
  obtain ⟨p0, l0, rfl, _⟩ := id r0.sl
  have KW := k3.trans q0
  have e0 : x0.cell? ⟨w.heap.size + 1 + 1, 0, none⟩ = some (.int .i64 f.b) := cell_of b2x0 rfl
  have e1 : x0.cell? ⟨w.heap.size + 1 + 1, 1, none⟩ = some (.slice none 0 0) := cell_of b2x0 rfl
  have fz : x0.frozen? ⟨w.heap.size + 1 + 1, 1, none⟩ = false := frozen_of b2x0
  have a0 : x0.cell? ⟨w.heap.size + 1, 0, none⟩ = some (.int .i64 0) := cell_of b1x0 rfl
  have a1 : x0.cell? ⟨w.heap.size + 1, 1, none⟩ = some (.slice none 0 0) := cell_of b1x0 rfl
  have fy : ∀ j, x0.frozen? ⟨w.heap.size + 1, j, none⟩ = false := fun j => frozen_of b1x0
  have HE : Hid (Kb 0 w x0 ∧ OwnR x0 (.slice p0 c l0) bb c (ub A) ∧ w.heap.size + 3 ≤ bb ∧ bb < x0.heap.size) := (⟨KW, r0, by omega, hbb.2⟩ : _ ∧ _)
  clear KW b1x0 b2x0 r0 q0 zq0 k3 z3 hbb
  go_wp2_with fail
  refine bodyPost_ret (by simp [results, Try.results80, go_sem, a0, a1]; rfl) rfl ?_
  obtain ⟨KW, s0, hb1, hb2⟩ := (show _ ∧ _ ∧ _ ∧ _ from HE)
  clear HE
  have hq := ((((Kb.refl (w.heap.size + 3) x0).setCell ⟨w.heap.size + 1 + 1, 1, none⟩ (Or.inl (show w.heap.size + 1 + 1 < w.heap.size + 3 by omega)) (.slice p0 c l0)).setCell ⟨w.heap.size + 1, 0, none⟩ (Or.inl (show w.heap.size + 1 < w.heap.size + 3 by omega)) (.int .i64 f.b)).setCell ⟨w.heap.size + 1, 1, none⟩ (Or.inl (show w.heap.size + 1 < w.heap.size + 3 by omega)) (.slice p0 c l0))
  have hk := (((KW.setCell ⟨w.heap.size + 1 + 1, 1, none⟩ (Or.inr (show w.heap.size ≤ w.heap.size + 1 + 1 by omega)) (.slice p0 c l0)).setCell ⟨w.heap.size + 1, 0, none⟩ (Or.inr (show w.heap.size ≤ w.heap.size + 1 by omega)) (.int .i64 f.b)).setCell ⟨w.heap.size + 1, 1, none⟩ (Or.inr (show w.heap.size ≤ w.heap.size + 1 by omega)) (.slice p0 c l0))
  exact ⟨_, bb, rfl, s0.kb (fun _ => hq.block bb (by omega) hb2), ⟨by omega, Nat.lt_of_lt_of_le hb2 hq.size⟩, hk⟩
set_option maxHeartbeats 8000000 in
theorem to_row2 {va : Value} {n : Nat} {F : Nat → Ed} (w : World) (ha : RowE 2 0 w va n F) (hn : n ≤ 1048576) (hF : ∀ i, i < n → (F i).c ≤ 1048576) :
    Calls Try.prog 47 #[va] w fun e w' => ∃ v g V G, e = .returned v ∧ OwE 2 w.heap.size w'.heap.size w' v n F g V G ∧ Kb 0 w w' := by
  obtain ⟨pa, ca, rfl, ha2⟩ := ha
  have hnI : (n : Int) ≤ 1048576 := by omega
  have hmk := run_make (P := Try.prog) w 28 71 Try.t71 (.agg #[.int .i64 0, .slice none 0 0]) Try.underlying28 (by kernel_rfl) (by kernel_rfl) .i64 .i64 (n : Int) (n : Int) (by omega) (Int.le_refl _) (by show (32 : Int) * (n : Int) ≤ _; omega) (by omega)
  rw [Int.toNat_natCast] at hmk
  obtain ⟨w1, hw1⟩ : ∃ w1, w1 = w.alloc (.cells (madeCells (.agg #[.int .i64 0, .slice none 0 0] : Value).cells (n * 2)) 71) := ⟨_, rfl⟩
  have hmk2 := hmk
  rw [show n * Try.t71.size = n * 2 from rfl, ← hw1] at hmk2
  clear hmk
  have hk1 : Kb 0 w w1 := by rw [hw1]; exact kb_alloc _ _ _
  have hz1 : w1.heap.size = w.heap.size + 1 := by rw [hw1]; simp
  obtain ⟨G, hG⟩ : ∃ G, G = w.heap.size := ⟨_, rfl⟩
  have HI0 : Hid (TsE 2 w1 G n F 0 w1) := by
    refine (⟨fun _ => .slice none 0 0, fun _ => 0, ?_, fun j hj => by omega, fun j j' hj => by omega⟩ : TsE 2 w1 G n F 0 w1)
    rw [hG, hw1]
    exact mk_zero w _ 2 _ n _ rfl
  have HA : Hid ((0 < n → ∃ a : Addr, pa = some a ∧ n ≤ ca ∧ 0 ≤ a.block ∧ ∀ i, i < n → ElC 2 0 w (a.add (i * 2)) (F i)) ∧ Kb 0 w w1 ∧ G = w.heap.size ∧ w1.heap.size = G + 1 ∧ (∀ i, i < n → (F i).c ≤ 1048576)) := (⟨ha2, hk1, hG, by omega, hF⟩ : _ ∧ _)
  rw [← hG] at hmk2
  clear ha2 hk1 hw1 hn hG hF hz1
  go_enter Try.func47, Try.ntmps47
  go_wp2_with fail
  go_loopw [4] (fun s4 wr => ∃ i : Nat, s4 = .int .i64 (i : Int) ∧ i ≤ n ∧ Hid (TsE 2 w1 G n F i wr)) (fun s4 _ => n - (intOf s4).toNat)
  case atStart => exact ⟨0, rfl, Nat.zero_le _, HI0⟩
  case round =>
    clear HI0 hmk2
    obtain ⟨i, rfl, hin, HI⟩ := hrel
    have hT0 := (show TsE 2 w1 G n F i wr from HI)
    obtain ⟨V, Gf, hM, hR, hD⟩ := id hT0
    have hA := (show (0 < n → ∃ a : Addr, pa = some a ∧ n ≤ ca ∧ 0 ≤ a.block ∧ ∀ i, i < n → ElC 2 0 w (a.add (i * 2)) (F i)) ∧ Kb 0 w w1 ∧ G = w.heap.size ∧ w1.heap.size = G + 1 ∧ (∀ i, i < n → (F i).c ≤ 1048576) from HA)
    have hBW : Kb 0 w wr := by
      have hG := hA.2.2.1
      have hA2 := hA.2.1
      exact ⟨hM.os.trans hA2.os, hM.output.trans hA2.output, Nat.le_trans hA2.size hM.size, fun b _ hb => (hM.block b (Nat.lt_of_lt_of_le hb hA2.size) (by omega)).trans (hA2.block b (Nat.zero_le _) hb)⟩
    rcases Nat.lt_or_ge i n with hi | hi
    · have hiI : (i : Int) < (n : Int) := by omega
      obtain ⟨a, rfl, hca, _, hra⟩ := hA.1 (by omega)
      obtain ⟨vc, x0, xt, hvc⟩ := (hra i hi).keep (.inr (.inl rfl)) (Nat.zero_le _) hBW
      have y1 := hA.2.2.2.2 i hi
      obtain ⟨q0, r0, rfl, -⟩ := id hvc
      have d0 : wr.cell? (a.add (i * 2)) = some (.int .i64 (F i).b) := x0
      have d1 : wr.cell? ⟨(a.add (i * 2)).block, (a.add (i * 2)).off + 1, none⟩ = some (.slice q0 (F i).c r0) := xt 1 (by omega) (by omega)
      have HT : Hid (Calls Try.prog 80 #[.agg #[.int .i64 (F i).b, .slice q0 (F i).c r0]] wr fun e w' => ∃ v0 b, e = .returned (.agg #[.int .i64 (F i).b, v0]) ∧ OwnR w' v0 b (F i).c (ub (F i).A) ∧ (wr.heap.size ≤ b ∧ b < w'.heap.size) ∧ Kb 0 wr w') := to_el2 wr (fun W k => to_bytsK W (hvc.keep k) y1)
      have HS : Hid (∀ w6 (v0 : Value) (b0 : Nat), Kb 0 wr w6 → OwnR w6 v0 b0 (F i).c (ub (F i).A) → (wr.heap.size ≤ b0 ∧ b0 < w6.heap.size) → (∀ t, t < 2 → ∃ u, w6.cell? ⟨G, i * 2 + t, none⟩ = some u) ∧ (∀ j, w6.frozen? ⟨G, j, none⟩ = false) ∧ TsE 2 w1 G n F (i + 1) (setL w6 G (i * 2) (hdl 2 (F i) ++ [v0]))) := (fun w6 v0 b0 k6 o hb => hT0.step (.inr (.inl rfl)) hi k6 o hb : ∀ w6 (v0 : Value) (b0 : Nat), _)
      clear hA HA hM hR hD hT0 HI hra hin hBW hvc y1 x0 xt
      go_wp2_with fail
      refine (show Calls Try.prog 80 #[.agg #[.int .i64 (F i).b, .slice q0 (F i).c r0]] wr fun e w' => ∃ v0 b, e = .returned (.agg #[.int .i64 (F i).b, v0]) ∧ OwnR w' v0 b (F i).c (ub (F i).A) ∧ (wr.heap.size ≤ b ∧ b < w'.heap.size) ∧ Kb 0 wr w' from HT).mono ?_
      rintro e w6 ⟨v0, b0, rfl, o6, hb6, k6⟩
      obtain ⟨hc, hf, hT⟩ := (show ∀ w6 (v0 : Value) (b0 : Nat), _ from HS) w6 v0 b0 k6 o6 hb6
      obtain ⟨u0, hu0⟩ := hc 0 (by omega)
      obtain ⟨u1, hu1⟩ := hc 1 (by omega)
      have h0 : w6.cell? ⟨G, i * 2, none⟩ = some u0 := hu0
      have f0 : w6.frozen? ⟨G, i * 2, none⟩ = false := hf _
      have h1 : w6.cell? ⟨G, i * 2 + 1, none⟩ = some u1 := hu1
      have f1 : w6.frozen? ⟨G, i * 2 + 1, none⟩ = false := hf _
      obtain ⟨p0, l0, rfl, _⟩ := id o6.sl
      have HTT : Hid (TsE 2 w1 G n F (i + 1) ((w6.setCell ⟨G, i * 2, none⟩ (.int .i64 (F i).b)).setCell ⟨G, i * 2 + 1, none⟩ (.slice p0 (F i).c l0))) := hT
      clear hc hf hT HS HT k6 o6 hb6 d0 hu0 d1 hu1
      go_wp2_with fail
      go_roundw
      case rel => exact ⟨i + 1, by go_num, by omega, HTT⟩
      case measure => simp [intOf]; omega
    · obtain rfl : i = n := by omega
      have HE : Hid (TsE 2 w1 G i F i wr ∧ Kb 0 w wr ∧ G = w.heap.size ∧ w1.heap.size = G + 1) := (⟨hT0, hBW, hA.2.2.1, hA.2.2.2.1⟩ : _ ∧ _)
      clear HI hM hR hD hA HA hBW hT0
      go_wp2_with fail
      go_ret
      obtain ⟨hT, hB, hG, hz⟩ := (show _ ∧ _ ∧ _ ∧ _ from HE)
      obtain ⟨V, Gf, ho⟩ := hT.own (Nat.le_refl i) hz
      subst hG
      exact ⟨_, _, V, Gf, rfl, ho, hB⟩
end Go.Proofs.Ytiojjejphdhpeaa.Fo
