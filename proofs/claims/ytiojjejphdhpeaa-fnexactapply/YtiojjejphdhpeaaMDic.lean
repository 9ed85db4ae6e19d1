import Derived.Test.YtiojjejphdhpeaaMDib
namespace Go.Proofs.Ytiojjejphdhpeaa.Fo
open Go.ChangeShapes Go.WideShapes Go.ChangeAt Go.RowKit
set_option linter.unusedVariables false
set_option maxRecDepth 100000
set_option linter.unusedSimpArgs false
theorem sm_all {f : Nat → Nat} {c : Nat} : ∀ n, (∀ i, i < n → f i = c) → sm f n = n * c
  | 0, _ => by rw [Nat.zero_mul]; rfl
  | n + 1, h => by
    show sm f n + f n = (n + 1) * c
    rw [sm_all n (fun i hi => h i (by omega)), h n (by omega), Nat.add_mul, Nat.one_mul]
theorem bd_dok {D : Dd} (h : Dok D) : BdD D := bd_of (by
  show (D.n + sm (fun i => (D.B i).c) D.n) + (D.m + sm (fun i => (D.Q i).c) D.m) ≤ 1048576
  have h1 := h.1
  have h2 := h.2.1
  rw [sm_all D.n h.2.2.1, sm_all D.m (fun i hi => (h.2.2.2 i hi).2.2), h1]
  omega)
theorem bd_zero : BdD ⟨0, fun _ => zE, 0, fun _ => zE⟩ := bd_of (by show dsz ⟨0, fun _ => zE, 0, fun _ => zE⟩ ≤ _; have : dsz ⟨0, fun _ => zE, 0, fun _ => zE⟩ = 0 := rfl; omega)
theorem dok_nil (W : World) : Calls Try.prog 43 #[.agg #[.slice none 0 0, .slice none 0 0]] W fun e w' => e = .returned (.bool false) ∧ Kb 0 W w' := by
  have hn : ¬ Dok ⟨0, fun _ => zE, 0, fun _ => zE⟩ := fun h => by have : (0 : Nat) = 258 := h.1; omega
  have := sp_dok (v1 := .slice none 0 0) (v2 := .slice none 0 0) W (D := ⟨0, fun _ => zE, 0, fun _ => zE⟩) ⟨⟨none, 0, rfl, fun h => absurd h (Nat.lt_irrefl 0)⟩, ⟨none, 0, rfl, fun h => absurd h (Nat.lt_irrefl 0)⟩⟩ bd_zero
  rw [dc_f hn] at this
  exact this
/-- the model's disk that ops are done with: in block P8 -/
structure AL (w2 : World) (P8 : Nat) (D : Dd) (x1 x2 : Value) (wr : World) : Prop where
  kb : Kb 0 w2 wr
  ge : w2.heap.size ≤ P8
  lt : P8 < wr.heap.size
  bl : wr.heap[P8]? = some (.cells #[x1, x2] 30 (0, 0))
  ow : ∃ L H, OwD L H wr x1 x2 D ∧ w2.heap.size ≤ L ∧ H ≤ wr.heap.size ∧ (H ≤ P8 ∨ P8 < L)
theorem AL.begin {w2 w3 w4 : World} {P8 : Nat} {D : Dd} {x1 x2 : Value} (o : OwD w2.heap.size w3.heap.size w3 x1 x2 D) (k : Kb 0 w2 w3) (hP : P8 = w3.heap.size) (h4 : w4 = w3.alloc (.cells #[x1, x2] 30)) : AL w2 P8 D x1 x2 w4 := by
  have k4 : Kb 0 w3 w4 := by rw [h4]; exact kb_alloc _ _ _
  have z4 : w4.heap.size = w3.heap.size + 1 := by rw [h4]; exact World.size_alloc _ _
  have := k.size
  exact ⟨k.trans k4, by omega, by omega, by rw [h4, hP]; exact alloc_new _ _ _, _, _, o.block (fun q _ h2 => k4.block q (Nat.zero_le _) h2), Nat.le_refl _, by omega, .inl (by omega)⟩
theorem AL.cells {w2 wr : World} {P8 : Nat} {D : Dd} {x1 x2 : Value} (h : AL w2 P8 D x1 x2 wr) : wr.cell? ⟨P8, 0, none⟩ = some x1 ∧ wr.cell? ⟨P8, 1, none⟩ = some x2 ∧ RowD 0 wr x1 x2 D := by
  obtain ⟨L, H, o, _⟩ := h.ow
  exact ⟨cell_of h.bl rfl, cell_of h.bl rfl, o.rowD.mono (Nat.zero_le _)⟩
theorem AL.keep {w2 wr W : World} {P8 : Nat} {D : Dd} {x1 x2 : Value} (h : AL w2 P8 D x1 x2 wr) (k : Kb 0 wr W) : AL w2 P8 D x1 x2 W := by
  obtain ⟨L, H, o, h1, h2, h3⟩ := h.ow
  have z := k.size
  have := h.lt
  exact ⟨h.kb.trans k, h.ge, by omega, (k.block _ (Nat.zero_le _) h.lt).trans h.bl, L, H, o.block (fun q _ hq => k.block q (Nat.zero_le _) (by omega)), h1, by omega, h3⟩
theorem AL.put {w2 wr W5 : World} {P8 : Nat} {D D' : Dd} {x1 x2 u1 u2 : Value} (h : AL w2 P8 D x1 x2 wr) (k : Kb 0 wr W5) (o : OwD wr.heap.size W5.heap.size W5 u1 u2 D') : (∀ j, W5.frozen? ⟨P8, j, none⟩ = false) ∧ ∀ W9 : World, W9 = (W5.setCell ⟨P8, 0, none⟩ u1).setCell ⟨P8, 1, none⟩ u2 → AL w2 P8 D' u1 u2 W9 := by
  have b5 := (k.block _ (Nat.zero_le _) h.lt).trans h.bl
  have z := k.size
  have hl := h.lt
  have hg := h.ge
  refine ⟨fun j => frozen_of b5, fun W9 h9 => ?_⟩
  have z9 : W9.heap.size = W5.heap.size := by rw [h9]; simp
  have bF : ∀ q, q ≠ P8 → W9.heap[q]? = W5.heap[q]? := fun q hq => by
    rw [h9, Below.heap_setCell _ _ _ _ (show q ≠ P8 from hq), Below.heap_setCell _ _ _ _ (show q ≠ P8 from hq)]
  refine ⟨?_, hg, by omega, by rw [h9]; exact set_known _ (set_known _ b5), _, _, o.block (fun q h1 _ => bF q (by omega)), by have := h.kb.size; omega, by omega, .inr hl⟩
  rw [h9]
  exact ((h.kb.trans k).setCell _ (.inr hg) _).setCell _ (.inr hg) _
theorem AL.putN {w2 wr W5 : World} {P8 : Nat} {D : Dd} {x1 x2 : Value} (h : AL w2 P8 D x1 x2 wr) (k : Kb 0 wr W5) : (∀ j, W5.frozen? ⟨P8, j, none⟩ = false) ∧ ∀ W9 : World, W9 = (W5.setCell ⟨P8, 0, none⟩ (.slice none 0 0)).setCell ⟨P8, 1, none⟩ (.slice none 0 0) → Kb 0 w2 W9 ∧ W9.heap[P8]? = some (.cells #[.slice none 0 0, .slice none 0 0] 30 (0, 0)) := by
  have b5 := (k.block _ (Nat.zero_le _) h.lt).trans h.bl
  have hg := h.ge
  refine ⟨fun j => frozen_of b5, fun W9 h9 => ⟨?_, by rw [h9]; exact set_known _ (set_known _ b5)⟩⟩
  rw [h9]
  exact ((h.kb.trans k).setCell _ (.inr hg) _).setCell _ (.inr hg) _
theorem sp_put_bad {v1 v2 : Value} {D : Dd} {e : Ed} {q0 : Option Addr} {r0 : Nat} (w : World) (ha : RowD 0 w v1 v2 D) (hok : Dok D) (hv : ¬ Vo D e) :
    Calls Try.prog 10 #[.agg #[v1, v2], .int .i64 e.b, .slice q0 e.c r0] w fun x w' => x = .returned (.agg #[.slice none 0 0, .slice none 0 0]) ∧ Kb 0 w w' := by
  have hd := bd_dok hok
  by_cases h2 : e.b < 0
  · exact sp_put_n2 e.b w ha hd hok h2
  · by_cases h3 : 258 ≤ e.b
    · exact sp_put_n3 e.b w ha hd hok (by omega) h3
    · by_cases h4 : e.c = 64
      · have h5 : D.m = 200 := by
          have := hok.2.1
          exact Decidable.byContradiction fun r => hv (.inr ⟨⟨by omega, by omega, h4⟩, by omega⟩)
        exact sp_put_n5 e.b w ha hd hok (by omega) (by omega) (by omega) h5
      · exact sp_put_n4 e.b w ha hd hok (by omega) (by omega) h4
set_option maxHeartbeats 32000000 in
theorem sp_lapply_yes {v1 v2 : Value} {D : Dd} {po : Option Addr} {no co N : Nat} {F : Nat → Ed} (w : World) (ha : RowD 0 w v1 v2 D) (ho : RowE 3 0 w (.slice po no co) no F) (hno : no ≤ 1048576) (hF : ∀ i, i < no → (F i).c ≤ 1048576) (hN : N ≤ no) (hok : Dok D) (hv : ∀ i, i < N → Vo (sqD D F i) (F i)) :
    Calls Try.prog 75 #[.agg #[v1, v2], .slice po no co, .int .i64 (N : Int)] w fun e w' => ∃ u1 u2, e = .returned (.tuple #[.agg #[u1, u2], .bool true]) ∧ OwD w.heap.size w'.heap.size w' u1 u2 (sqD D F N) ∧ Kb 0 w w' := by
  obtain ⟨⟨p1, c1, rfl, -⟩, ⟨p2, c2, rfl, -⟩⟩ := id ha
  obtain ⟨w2, hw2⟩ : ∃ w2, w2 = (w.alloc (.cells #[.slice p1 D.n c1, .slice p2 D.m c2] 30)).alloc (.cells #[.slice none 0 0, .slice none 0 0] 30) := ⟨_, rfl⟩
  obtain ⟨b0, b1, z2, k2⟩ := two_newD w _ _ _ _ w2 hw2
  have u0 : w2.cell? ⟨w.heap.size, 0, none⟩ = some (.slice p1 D.n c1) := cell_of b0 rfl
  have u1 : w2.cell? ⟨w.heap.size, 1, none⟩ = some (.slice p2 D.m c2) := cell_of b0 rfl
  have HB : Hid (Kb 0 w w2 ∧ w2.heap[w.heap.size]? = some (.cells #[.slice p1 D.n c1, .slice p2 D.m c2] 30 (0, 0)) ∧ w2.heap[w.heap.size + 1]? = some (.cells #[.slice none 0 0, .slice none 0 0] 30 (0, 0)) ∧ w2.heap.size = w.heap.size + 2) := (⟨k2, b0, b1, z2⟩ : _ ∧ _)
  have HW2 : Hid (w2 = (w.alloc (.cells #[.slice p1 D.n c1, .slice p2 D.m c2] 30)).alloc (.cells #[.slice none 0 0, .slice none 0 0] 30)) := hw2
  have HC := sp_dcopy w2 (ha.keep k2) (bd_dok hok)
  obtain ⟨pa, ca, ea, ha2⟩ := id ho
  injection ea with ea1 ea2 ea3
  subst ea1
  subst ea3
  have HA : Hid (∀ W, Kb 0 w2 W → ∀ i, i < N → ∃ (a : Addr) (q0 : Option Addr) (r0 : Nat), po = some a ∧ no ≤ co ∧ W.cell? (a.add (i * 3)) = some (.bool (F i).s) ∧ W.cell? ⟨(a.add (i * 3)).block, (a.add (i * 3)).off + 1, none⟩ = some (.int .i64 (F i).b) ∧ W.cell? ⟨(a.add (i * 3)).block, (a.add (i * 3)).off + 2, none⟩ = some (.slice q0 (F i).c r0) ∧ RowV W (.slice q0 (F i).c r0) (F i).c (ub (F i).A) ∧ (F i).c ≤ 1048576) := (fun W k i hi => by
    obtain ⟨a, q1, q2, _, q4⟩ := ha2 (by omega)
    obtain ⟨vc, x0, xt, hvc⟩ := (q4 i (by omega)).keep (.inr (.inr rfl)) (Nat.zero_le _) (k2.trans k)
    obtain ⟨q0, r0, rfl, _⟩ := id hvc
    exact ⟨a, q0, r0, q1, q2, x0, xt 1 (by omega) (by omega), xt 2 (by omega) (by omega), hvc.row, hF i (by omega)⟩ : ∀ W, _)
  have HOK : Hid (∀ i, i ≤ N → Dok (sqD D F i)) := (fun i hi => dok_sq hok i (fun j hj => hv j (by omega)) : ∀ i, _)
  have HV : Hid (∀ i, i < N → Vo (sqD D F i) (F i)) := hv
  have hNI : (N : Int) ≤ 1048576 := by omega
  have hNno : N ≤ no := hN
  have hnoI : (no : Int) ≤ 1048576 := by omega
  clear hw2 b0 b1 z2 k2 ha hok ha2 hv ho hF hN hno
  go_enter Try.func75, Try.ntmps75
  go_upto_region 1 with fail
  rw [← (show w2 = _ from HW2)]
  clear HW2
  go_wp2_with fail
  refine HC.mono ?_
  rintro e w3 ⟨x1', x2', rfl, o3, k3⟩
  obtain ⟨x1, xc1, x2, xc2, rfl, rfl⟩ := o3.shape
  obtain ⟨P8, hP8⟩ : ∃ P8, P8 = w3.heap.size := ⟨_, rfl⟩
  obtain ⟨w4, hw4⟩ : ∃ w4, w4 = w3.alloc (.cells #[.slice x1 D.n xc1, .slice x2 D.m xc2] 30) := ⟨_, rfl⟩
  have hAL : AL w2 P8 (sqD D F 0) (.slice x1 D.n xc1) (.slice x2 D.m xc2) w4 := AL.begin o3 k3 hP8 hw4
  have HX0 : Hid (AL w2 P8 (sqD D F 0) (.slice x1 (sqD D F 0).n xc1) (.slice x2 (sqD D F 0).m xc2) w4) := hAL
  have HW4 : Hid (w4 = w3.alloc (.cells #[.slice x1 D.n xc1, .slice x2 D.m xc2] 30) ∧ P8 = w3.heap.size) := (⟨hw4, hP8⟩ : _ ∧ _)
  clear HC u0 u1 o3 k3 hP8 hw4 hAL
  go_upto_region 2 with fail
  rw [← (show _ ∧ _ from HW4).1, ← (show _ ∧ _ from HW4).2]
  clear HW4
  go_wp2_with fail
  go_loopw [9] (fun s9 wr => ∃ i : Nat, s9 = .int .i64 (i : Int) ∧ i ≤ N ∧ ∃ x1 xc1 x2 xc2, Hid (AL w2 P8 (sqD D F i) (.slice x1 (sqD D F i).n xc1) (.slice x2 (sqD D F i).m xc2) wr)) (fun s9 _ => N - (intOf s9).toNat)
  case atStart => exact ⟨0, rfl, Nat.zero_le _, _, _, _, _, HX0⟩
  case round =>
    clear HX0
    obtain ⟨i, rfl, hil, x1, xc1, x2, xc2, HX⟩ := hrel
    have hX := (show AL w2 P8 (sqD D F i) (.slice x1 (sqD D F i).n xc1) (.slice x2 (sqD D F i).m xc2) wr from HX)
    clear HX
    by_cases hi : i < N
    case neg =>
      obtain rfl : i = N := by omega
      obtain ⟨c0, c1, c2⟩ := hX.cells
      obtain ⟨kw2, b0, b1, z2⟩ := (show _ ∧ _ ∧ _ ∧ _ from HB)
      have k24 := hX.kb
      have r := (k24.block (w.heap.size + 1) (Nat.zero_le _) (by omega)).trans b1
      have a0 : wr.cell? ⟨w.heap.size + 1, 0, none⟩ = some (.slice none 0 0) := cell_of r rfl
      have a1 : wr.cell? ⟨w.heap.size + 1, 1, none⟩ = some (.slice none 0 0) := cell_of r rfl
      have fy : ∀ j, wr.frozen? ⟨w.heap.size + 1, j, none⟩ = false := fun j => frozen_of r
      obtain ⟨WF, hWF⟩ : ∃ WF, WF = (wr.setCell ⟨w.heap.size + 1, 0, none⟩ (.slice x1 (sqD D F i).n xc1)).setCell ⟨w.heap.size + 1, 1, none⟩ (.slice x2 (sqD D F i).m xc2) := ⟨_, rfl⟩
      have zF : WF.heap.size = wr.heap.size := by rw [hWF]; simp
      have bF : ∀ q, q ≠ w.heap.size + 1 → WF.heap[q]? = wr.heap[q]? := fun q hq => by
        rw [hWF, Below.heap_setCell _ _ _ _ (show q ≠ w.heap.size + 1 from hq), Below.heap_setCell _ _ _ _ (show q ≠ w.heap.size + 1 from hq)]
      have rF : WF.heap[w.heap.size + 1]? = some (.cells #[.slice x1 (sqD D F i).n xc1, .slice x2 (sqD D F i).m xc2] 30 (0, 0)) := by
        rw [hWF]
        exact set_known _ (set_known _ r)
      have f3 : WF.cell? ⟨w.heap.size + 1, 0, none⟩ = some (.slice x1 (sqD D F i).n xc1) := cell_of rF rfl
      have f4 : WF.cell? ⟨w.heap.size + 1, 1, none⟩ = some (.slice x2 (sqD D F i).m xc2) := cell_of rF rfl
      have kF : Kb 0 w WF := by rw [hWF]; exact ((kw2.trans k24).setCell _ (.inr (by show _ ≤ w.heap.size + 1; omega)) _).setCell _ (.inr (by show _ ≤ w.heap.size + 1; omega)) _
      have oF : OwD w.heap.size WF.heap.size WF (.slice x1 (sqD D F i).n xc1) (.slice x2 (sqD D F i).m xc2) (sqD D F i) := by
        obtain ⟨L, H, q1, q2, q3, _⟩ := hX.ow
        rw [zF]
        exact (q1.block (fun q h1 h2 => bF q (by omega))).wide (by omega) (by omega)
      have HF : Hid (OwD w.heap.size WF.heap.size WF (.slice x1 (sqD D F i).n xc1) (.slice x2 (sqD D F i).m xc2) (sqD D F i) ∧ Kb 0 w WF) := (⟨oF, kF⟩ : _ ∧ _)
      have HWF : Hid (WF = _) := hWF
      clear hX c2 kw2 b0 b1 z2 k24 r zF bF rF hWF oF kF HB HA HOK HV hi hil
      go_wp2_with fail
      rw [← (show WF = _ from HWF)]
      clear HWF
      refine bodyPost_ret (by simp [results, Try.results75, go_sem, f3, f4]; rfl) rfl ?_
      exact ⟨_, _, rfl, HF⟩
    obtain ⟨c0, c1, c2⟩ := hX.cells
    have hiI : (i : Int) < (N : Int) := by omega
    have hin : i < N := by omega
    obtain ⟨a, q0, r0, rfl, hca, d0, d1, d2, hrv, hcl⟩ := (show ∀ W, Kb 0 w2 W → ∀ i, i < N → _ from HA) wr hX.kb i hin
    have hoki := (show ∀ i, i ≤ N → _ from HOK) i (by omega)
    have hok1 := (show ∀ i, i ≤ N → _ from HOK) (i + 1) (by omega)
    have hvi := (show ∀ i, i < N → _ from HV) i hi
    have HDK : Hid (∀ (W : World) v1 v2, RowD 0 W v1 v2 (sqD D F (i + 1)) → Calls Try.prog 43 #[.agg #[v1, v2]] W fun e w' => e = .returned (.bool true) ∧ Kb 0 W w') := (fun W v1 v2 h => by
      have := sp_dok W h (bd_dok hok1)
      rw [dc_t hok1] at this
      exact this : ∀ (W : World) v1 v2, _)
    have HST : Hid (∀ (W5 : World) u1 u2, Kb 0 wr W5 → OwD wr.heap.size W5.heap.size W5 u1 u2 (sqD D F (i + 1)) → (∀ j, W5.frozen? ⟨P8, j, none⟩ = false) ∧ ∀ W9 : World, W9 = (W5.setCell ⟨P8, 0, none⟩ u1).setCell ⟨P8, 1, none⟩ u2 → AL w2 P8 (sqD D F (i + 1)) u1 u2 W9) := (fun W5 u1 u2 k5 o5 => hX.put k5 o5 : ∀ (W5 : World) u1 u2, _)
    cases hsi : (F i).s with
    | true =>
      rw [hsi] at d0
      have HSY : Calls Try.prog 106 #[.agg #[.slice x1 (sqD D F i).n xc1, .slice x2 (sqD D F i).m xc2]] wr fun e w' => ∃ u1 u2, e = .returned (.agg #[u1, u2]) ∧ OwD wr.heap.size w'.heap.size w' u1 u2 (sqD D F (i + 1)) ∧ Kb 0 wr w' := by
        have := sp_sync_yes wr c2 (bd_dok hoki) hoki
        have e : sqD D F (i + 1) = ⟨258, pE (stl (dpg (sqD D F i)) (sqD D F i).Q (sqD D F i).m), 0, fun _ => zE⟩ := nxt_t hsi
        rw [e]
        exact this
      clear hX c2 hrv hcl hoki hok1 hvi hsi d1 d2 hil
      go_wp2_with fail
      refine HSY.mono ?_
      rintro e W5 ⟨u1', u2', rfl, o5, k5⟩
      obtain ⟨u1, uc1, u2, uc2, rfl, rfl⟩ := o5.shape
      obtain ⟨fy, HNX⟩ := (show ∀ (W5 : World) u1 u2, _ from HST) W5 _ _ k5 o5
      have y0 := k5.cell c0
      have y1 := k5.cell c1
      obtain ⟨W9, hW9⟩ : ∃ W9, W9 = (W5.setCell ⟨P8, 0, none⟩ (.slice u1 (sqD D F (i + 1)).n uc1)).setCell ⟨P8, 1, none⟩ (.slice u2 (sqD D F (i + 1)).m uc2) := ⟨_, rfl⟩
      have HX9 : Hid (AL w2 P8 (sqD D F (i + 1)) (.slice u1 (sqD D F (i + 1)).n uc1) (.slice u2 (sqD D F (i + 1)).m uc2) W9) := HNX W9 hW9
      have HW9 : Hid (W9 = _) := hW9
      clear HSY o5 k5 HNX HST c0 c1 hW9
      go_upto_region 8 with fail
      rw [← (show W9 = _ from HW9)]
      clear HW9 y0 y1 fy
      obtain ⟨e0, e1, e2⟩ := (show AL w2 P8 (sqD D F (i + 1)) (.slice u1 (sqD D F (i + 1)).n uc1) (.slice u2 (sqD D F (i + 1)).m uc2) W9 from HX9).cells
      have HD9 := (show ∀ (W : World) v1 v2, _ from HDK) W9 _ _ e2
      clear e2
      go_wp2_with fail
      refine HD9.mono ?_
      rintro e w10 ⟨rfl, k10⟩
      have HN : Hid (AL w2 P8 (sqD D F (i + 1)) (.slice u1 (sqD D F (i + 1)).n uc1) (.slice u2 (sqD D F (i + 1)).m uc2) w10) := (show AL w2 P8 (sqD D F (i + 1)) (.slice u1 (sqD D F (i + 1)).n uc1) (.slice u2 (sqD D F (i + 1)).m uc2) W9 from HX9).keep k10
      clear HD9 k10 e0 e1 HX9
      go_wp2_with fail
      go_roundw
      case rel => exact ⟨i + 1, by go_num, by omega, _, _, _, _, HN⟩
      case measure => simp [intOf]; omega
    | false =>
      rw [hsi] at d0
      have HPB : Hid (∀ W, Kb 0 wr W → Calls Try.prog 10 #[.agg #[.slice x1 (sqD D F i).n xc1, .slice x2 (sqD D F i).m xc2], .int .i64 (F i).b, .slice q0 (F i).c r0] W fun e w' => ∃ u1 u2, e = .returned (.agg #[u1, u2]) ∧ OwD W.heap.size w'.heap.size w' u1 u2 (sqD D F (i + 1)) ∧ Kb 0 W w') := (fun W k => by
        obtain ⟨⟨hb1, hb2, hc⟩, hm⟩ := hvi.resolve_left (by rw [hsi]; decide)
        have e : sqD D F (i + 1) = pD (sqD D F i) (F i).b (F i).A := nxt_f hsi
        rw [e]
        rw [hc] at hrv ⊢
        exact sp_put_yes (F i).b W (c2.keep k) (bd_dok hoki) hoki ⟨hb1, hb2⟩ (rowv_keep hrv k) hm : ∀ W, _)
      obtain ⟨NN, hNN⟩ : ∃ NN, NN = (sqD D F i).n := ⟨_, rfl⟩
      obtain ⟨MM, hMM⟩ : ∃ MM, MM = (sqD D F i).m := ⟨_, rfl⟩
      rw [← hNN] at HPB c0
      rw [← hMM] at HPB c1
      clear hX c2 hrv hcl hoki hok1 hvi hsi hil hNN hMM
      go_upto_region 7 with fail
      refine AnyL.region (S := fun W' => W'.cell? ⟨P8, 0, none⟩ = some (.slice x1 NN xc1) ∧ W'.cell? ⟨P8, 1, none⟩ = some (.slice x2 MM xc2) ∧ W'.cell? ⟨(a.add (i * 3)).block, (a.add (i * 3)).off + 1, none⟩ = some (.int .i64 (F i).b) ∧ W'.cell? ⟨(a.add (i * 3)).block, (a.add (i * 3)).off + 2, none⟩ = some (.slice q0 (F i).c r0)) (z := 12) (by kernel_rfl) ?_
      have hS0 : (fun W' : World => W'.cell? ⟨P8, 0, none⟩ = some (.slice x1 NN xc1) ∧ W'.cell? ⟨P8, 1, none⟩ = some (.slice x2 MM xc2) ∧ W'.cell? ⟨(a.add (i * 3)).block, (a.add (i * 3)).off + 1, none⟩ = some (.int .i64 (F i).b) ∧ W'.cell? ⟨(a.add (i * 3)).block, (a.add (i * 3)).off + 2, none⟩ = some (.slice q0 (F i).c r0)) wr.drew := ⟨c0, c1, d1, d2⟩
      have HKD : Hid (Kb 0 wr wr.drew) := (Kb.drewN (Kb.refl _ _) 1 : Kb 0 wr wr.drew)
      obtain ⟨W0, hW0⟩ : ∃ W0, W0 = wr.drew := ⟨_, rfl⟩
      rw [← hW0] at HKD hS0 ⊢
      clear hW0 c0 c1 d1 d2
      refine AnyL.takeAt 0 (.agg #[.slice x1 NN xc1, .slice x2 MM xc2]) rfl (by kernel_rfl) (by kernel_rfl) (by kernel_rfl) (by kernel_rfl) (fun _ _ _ h => h) rfl hS0 (by intro W hW; first | go_simp | (obtain ⟨i0, i1, i2, i3⟩ := hW; go_simp)) ?_
      try simp only [Act.put, List.setIfInBounds_toArray, List.set_cons_zero, List.set_cons_succ]
      refine AnyL.takeAt 1 (.slice (some a) no co) rfl (by kernel_rfl) (by kernel_rfl) (by kernel_rfl) (by kernel_rfl) (fun _ _ _ h => h) rfl hS0 (by intro W hW; first | go_simp | (obtain ⟨i0, i1, i2, i3⟩ := hW; go_simp)) ?_
      try simp only [Act.put, List.setIfInBounds_toArray, List.set_cons_zero, List.set_cons_succ]
      refine AnyL.takeAt 2 (.int .i64 (i : Int)) rfl (by kernel_rfl) (by kernel_rfl) (by kernel_rfl) (by kernel_rfl) (fun _ _ _ h => h) rfl hS0 (by intro W hW; first | go_simp | (obtain ⟨i0, i1, i2, i3⟩ := hW; go_simp)) ?_
      try simp only [Act.put, List.setIfInBounds_toArray, List.set_cons_zero, List.set_cons_succ]
      refine AnyL.takeAt 3 (.pointer (some (a.add (i * 3)))) rfl (by kernel_rfl) (by kernel_rfl) (by kernel_rfl) (by kernel_rfl) (fun _ _ _ h => h) rfl hS0 (by intro W hW; go_simp; intro hx; exfalso; omega) ?_
      try simp only [Act.put, List.setIfInBounds_toArray, List.set_cons_zero, List.set_cons_succ]
      refine AnyL.takeAt 4 (.pointer (some ⟨(a.add (i * 3)).block, (a.add (i * 3)).off + 1, none⟩)) rfl (by kernel_rfl) (by kernel_rfl) (by kernel_rfl) (by kernel_rfl) (fun _ _ _ h => h) rfl hS0 (by intro W hW; first | go_simp | (obtain ⟨i0, i1, i2, i3⟩ := hW; go_simp)) ?_
      try simp only [Act.put, List.setIfInBounds_toArray, List.set_cons_zero, List.set_cons_succ]
      refine AnyL.takeAt 5 (.int .i64 (F i).b) rfl (by kernel_rfl) (by kernel_rfl) (by kernel_rfl) (by kernel_rfl) (fun _ _ _ h => h) rfl hS0 (by intro W hW; first | go_simp | (obtain ⟨i0, i1, i2, i3⟩ := hW; go_simp)) ?_
      try simp only [Act.put, List.setIfInBounds_toArray, List.set_cons_zero, List.set_cons_succ]
      refine AnyL.takeAt 6 (.slice (some a) no co) rfl (by kernel_rfl) (by kernel_rfl) (by kernel_rfl) (by kernel_rfl) (fun _ _ _ h => h) rfl hS0 (by intro W hW; first | go_simp | (obtain ⟨i0, i1, i2, i3⟩ := hW; go_simp)) ?_
      try simp only [Act.put, List.setIfInBounds_toArray, List.set_cons_zero, List.set_cons_succ]
      refine AnyL.takeAt 7 (.int .i64 (i : Int)) rfl (by kernel_rfl) (by kernel_rfl) (by kernel_rfl) (by kernel_rfl) (fun _ _ _ h => h) rfl hS0 (by intro W hW; first | go_simp | (obtain ⟨i0, i1, i2, i3⟩ := hW; go_simp)) ?_
      try simp only [Act.put, List.setIfInBounds_toArray, List.set_cons_zero, List.set_cons_succ]
      refine AnyL.takeAt 8 (.pointer (some (a.add (i * 3)))) rfl (by kernel_rfl) (by kernel_rfl) (by kernel_rfl) (by kernel_rfl) (fun _ _ _ h => h) rfl hS0 (by intro W hW; go_simp; intro hx; exfalso; omega) ?_
      try simp only [Act.put, List.setIfInBounds_toArray, List.set_cons_zero, List.set_cons_succ]
      refine AnyL.takeAt 9 (.pointer (some ⟨(a.add (i * 3)).block, (a.add (i * 3)).off + 2, none⟩)) rfl (by kernel_rfl) (by kernel_rfl) (by kernel_rfl) (by kernel_rfl) (fun _ _ _ h => h) rfl hS0 (by intro W hW; first | go_simp | (obtain ⟨i0, i1, i2, i3⟩ := hW; go_simp)) ?_
      try simp only [Act.put, List.setIfInBounds_toArray, List.set_cons_zero, List.set_cons_succ]
      refine AnyL.takeAt 10 (.slice q0 (F i).c r0) rfl (by kernel_rfl) (by kernel_rfl) (by kernel_rfl) (by kernel_rfl) (fun _ _ _ h => h) rfl hS0 (by intro W hW; first | go_simp | (obtain ⟨i0, i1, i2, i3⟩ := hW; go_simp)) ?_
      try simp only [Act.put, List.setIfInBounds_toArray, List.set_cons_zero, List.set_cons_succ]
      refine AnyL.oneAt 11 rfl (by kernel_rfl) rfl ?_
      intro K hK
      go_simp
      refine ((show ∀ W, Kb 0 wr W → _ from HPB) W0 HKD).mono ?_
      rintro e W5 ⟨u1', u2', rfl, o5, k5⟩
      obtain ⟨u1, uc1, u2, uc2, rfl, rfl⟩ := o5.shape
      have k05 := (show Kb 0 wr W0 from HKD).trans k5
      have hS5 : (fun W' : World => W'.cell? ⟨P8, 0, none⟩ = some (.slice x1 NN xc1) ∧ W'.cell? ⟨P8, 1, none⟩ = some (.slice x2 MM xc2) ∧ W'.cell? ⟨(a.add (i * 3)).block, (a.add (i * 3)).off + 1, none⟩ = some (.int .i64 (F i).b) ∧ W'.cell? ⟨(a.add (i * 3)).block, (a.add (i * 3)).off + 2, none⟩ = some (.slice q0 (F i).c r0)) W5 := ⟨k5.cell hS0.1, k5.cell hS0.2.1, k5.cell hS0.2.2.1, k5.cell hS0.2.2.2⟩
      have HNX := (show ∀ (W5 : World) u1 u2, _ from HST) W5 _ _ k05 (by have := (show Kb 0 wr W0 from HKD).size; exact o5.wide this (Nat.le_refl _))
      clear HPB HST o5 k5 k05 HKD hS0
      refine hK.out _ _ (fun _ => hS5) ?_
      clear hK K
      try simp only [Act.put, List.setIfInBounds_toArray, List.set_cons_zero, List.set_cons_succ]
      refine AnyL.oneAt 12 rfl (by kernel_rfl) rfl ?_
      intro K hK
      have fy : ∀ j, W5.frozen? ⟨P8, j, none⟩ = false := HNX.1
      have y0 := hS5.1
      have y1 := hS5.2.1
      go_simp
      generalize hW9 : World.setCell (World.setCell W5 _ _) _ _ = W9
      have HX9 : Hid (AL w2 P8 (sqD D F (i + 1)) (.slice u1 (sqD D F (i + 1)).n uc1) (.slice u2 (sqD D F (i + 1)).m uc2) W9) := HNX.2 W9 hW9.symm
      clear HNX hW9 fy y0 y1 hS5
      refine hK.out _ _ (fun h => absurd rfl h) ?_
      clear hK K
      try simp only [Act.put, List.setIfInBounds_toArray, List.set_cons_zero, List.set_cons_succ]
      refine AnyL.done (by kernel_rfl) ?_
      obtain ⟨e0, e1, e2⟩ := (show AL w2 P8 (sqD D F (i + 1)) (.slice u1 (sqD D F (i + 1)).n uc1) (.slice u2 (sqD D F (i + 1)).m uc2) W9 from HX9).cells
      have HD9 := (show ∀ (W : World) v1 v2, _ from HDK) W9 _ _ e2
      clear e2
      go_wp2_with fail
      refine HD9.mono ?_
      rintro e w10 ⟨rfl, k10⟩
      have HN : Hid (AL w2 P8 (sqD D F (i + 1)) (.slice u1 (sqD D F (i + 1)).n uc1) (.slice u2 (sqD D F (i + 1)).m uc2) w10) := (show AL w2 P8 (sqD D F (i + 1)) (.slice u1 (sqD D F (i + 1)).n uc1) (.slice u2 (sqD D F (i + 1)).m uc2) W9 from HX9).keep k10
      clear HD9 k10 e0 e1 HX9
      go_wp2_with fail
      go_roundw
      case rel => exact ⟨i + 1, by go_num, by omega, _, _, _, _, HN⟩
      case measure => simp [intOf]; omega
set_option maxHeartbeats 32000000 in
theorem sp_lapply_bad {v1 v2 : Value} {D : Dd} {po : Option Addr} {no co N K : Nat} {F : Nat → Ed} (w : World) (ha : RowD 0 w v1 v2 D) (ho : RowE 3 0 w (.slice po no co) no F) (hno : no ≤ 1048576) (hF : ∀ i, i < no → (F i).c ≤ 1048576) (hN : N ≤ no) (hok : Dok D) (hK : K < N) (hv : ∀ i, i < K → Vo (sqD D F i) (F i)) (hbad : ¬ Vo (sqD D F K) (F K)) :
    Calls Try.prog 75 #[.agg #[v1, v2], .slice po no co, .int .i64 (N : Int)] w fun e w' => e = .returned (.tuple #[.agg #[.slice none 0 0, .slice none 0 0], .bool false]) ∧ Kb 0 w w' := by
  obtain ⟨⟨p1, c1, rfl, -⟩, ⟨p2, c2, rfl, -⟩⟩ := id ha
  obtain ⟨w2, hw2⟩ : ∃ w2, w2 = (w.alloc (.cells #[.slice p1 D.n c1, .slice p2 D.m c2] 30)).alloc (.cells #[.slice none 0 0, .slice none 0 0] 30) := ⟨_, rfl⟩
  obtain ⟨b0, b1, z2, k2⟩ := two_newD w _ _ _ _ w2 hw2
  have u0 : w2.cell? ⟨w.heap.size, 0, none⟩ = some (.slice p1 D.n c1) := cell_of b0 rfl
  have u1 : w2.cell? ⟨w.heap.size, 1, none⟩ = some (.slice p2 D.m c2) := cell_of b0 rfl
  have HB : Hid (Kb 0 w w2 ∧ w2.heap[w.heap.size]? = some (.cells #[.slice p1 D.n c1, .slice p2 D.m c2] 30 (0, 0)) ∧ w2.heap[w.heap.size + 1]? = some (.cells #[.slice none 0 0, .slice none 0 0] 30 (0, 0)) ∧ w2.heap.size = w.heap.size + 2) := (⟨k2, b0, b1, z2⟩ : _ ∧ _)
  have HW2 : Hid (w2 = (w.alloc (.cells #[.slice p1 D.n c1, .slice p2 D.m c2] 30)).alloc (.cells #[.slice none 0 0, .slice none 0 0] 30)) := hw2
  have HC := sp_dcopy w2 (ha.keep k2) (bd_dok hok)
  obtain ⟨pa, ca, ea, ha2⟩ := id ho
  injection ea with ea1 ea2 ea3
  subst ea1
  subst ea3
  have HA : Hid (∀ W, Kb 0 w2 W → ∀ i, i < N → ∃ (a : Addr) (q0 : Option Addr) (r0 : Nat), po = some a ∧ no ≤ co ∧ W.cell? (a.add (i * 3)) = some (.bool (F i).s) ∧ W.cell? ⟨(a.add (i * 3)).block, (a.add (i * 3)).off + 1, none⟩ = some (.int .i64 (F i).b) ∧ W.cell? ⟨(a.add (i * 3)).block, (a.add (i * 3)).off + 2, none⟩ = some (.slice q0 (F i).c r0) ∧ RowV W (.slice q0 (F i).c r0) (F i).c (ub (F i).A) ∧ (F i).c ≤ 1048576) := (fun W k i hi => by
    obtain ⟨a, q1, q2, _, q4⟩ := ha2 (by omega)
    obtain ⟨vc, x0, xt, hvc⟩ := (q4 i (by omega)).keep (.inr (.inr rfl)) (Nat.zero_le _) (k2.trans k)
    obtain ⟨q0, r0, rfl, _⟩ := id hvc
    exact ⟨a, q0, r0, q1, q2, x0, xt 1 (by omega) (by omega), xt 2 (by omega) (by omega), hvc.row, hF i (by omega)⟩ : ∀ W, _)
  have HOK : Hid (∀ i, i ≤ K → Dok (sqD D F i)) := (fun i hi => dok_sq hok i (fun j hj => hv j (by omega)) : ∀ i, _)
  have HV : Hid (∀ i, i < K → Vo (sqD D F i) (F i)) := hv
  have HBAD : Hid (¬ Vo (sqD D F K) (F K) ∧ K < N) := (⟨hbad, hK⟩ : _ ∧ _)
  have hNI : (N : Int) ≤ 1048576 := by omega
  have hNno : N ≤ no := hN
  have hnoI : (no : Int) ≤ 1048576 := by omega
  clear hw2 b0 b1 z2 k2 ha hok ha2 hv ho hF hN hno hbad
  go_enter Try.func75, Try.ntmps75
  go_upto_region 1 with fail
  rw [← (show w2 = _ from HW2)]
  clear HW2
  go_wp2_with fail
  refine HC.mono ?_
  rintro e w3 ⟨x1', x2', rfl, o3, k3⟩
  obtain ⟨x1, xc1, x2, xc2, rfl, rfl⟩ := o3.shape
  obtain ⟨P8, hP8⟩ : ∃ P8, P8 = w3.heap.size := ⟨_, rfl⟩
  obtain ⟨w4, hw4⟩ : ∃ w4, w4 = w3.alloc (.cells #[.slice x1 D.n xc1, .slice x2 D.m xc2] 30) := ⟨_, rfl⟩
  have hAL : AL w2 P8 (sqD D F 0) (.slice x1 D.n xc1) (.slice x2 D.m xc2) w4 := AL.begin o3 k3 hP8 hw4
  have HX0 : Hid (AL w2 P8 (sqD D F 0) (.slice x1 (sqD D F 0).n xc1) (.slice x2 (sqD D F 0).m xc2) w4) := hAL
  have HW4 : Hid (w4 = w3.alloc (.cells #[.slice x1 D.n xc1, .slice x2 D.m xc2] 30) ∧ P8 = w3.heap.size) := (⟨hw4, hP8⟩ : _ ∧ _)
  clear HC u0 u1 o3 k3 hP8 hw4 hAL
  go_upto_region 2 with fail
  rw [← (show _ ∧ _ from HW4).1, ← (show _ ∧ _ from HW4).2]
  clear HW4
  go_wp2_with fail
  go_loopw [9] (fun s9 wr => ∃ i : Nat, s9 = .int .i64 (i : Int) ∧ i ≤ K ∧ ∃ x1 xc1 x2 xc2, Hid (AL w2 P8 (sqD D F i) (.slice x1 (sqD D F i).n xc1) (.slice x2 (sqD D F i).m xc2) wr)) (fun s9 _ => N - (intOf s9).toNat)
  case atStart => exact ⟨0, rfl, Nat.zero_le _, _, _, _, _, HX0⟩
  case round =>
    clear HX0
    obtain ⟨i, rfl, hil, x1, xc1, x2, xc2, HX⟩ := hrel
    have hX := (show AL w2 P8 (sqD D F i) (.slice x1 (sqD D F i).n xc1) (.slice x2 (sqD D F i).m xc2) wr from HX)
    clear HX
    have hKN : K < N := (show _ ∧ _ from HBAD).2
    by_cases hi : i < K
    case neg =>
      obtain rfl : i = K := by omega
      obtain ⟨c0, c1, c2⟩ := hX.cells
      have hiI : (i : Int) < (N : Int) := by omega
      have hin : i < N := hKN
      obtain ⟨a, q0, r0, rfl, hca, d0, d1, d2, hrv, hcl⟩ := (show ∀ W, Kb 0 w2 W → ∀ i, i < N → _ from HA) wr hX.kb i hKN
      have hsi : (F i).s = false := by
        cases e : (F i).s with
        | true => exact absurd (.inl e) (show _ ∧ _ from HBAD).1
        | false => rfl
      rw [hsi] at d0
      have HPB : Hid (∀ W, Kb 0 wr W → Calls Try.prog 10 #[.agg #[.slice x1 (sqD D F i).n xc1, .slice x2 (sqD D F i).m xc2], .int .i64 (F i).b, .slice q0 (F i).c r0] W fun e w' => e = .returned (.agg #[.slice none 0 0, .slice none 0 0]) ∧ Kb 0 W w') := (fun W k => sp_put_bad W (hX.cells.2.2.keep k) ((show ∀ j, j ≤ i → _ from HOK) i (Nat.le_refl _)) (show _ ∧ _ from HBAD).1 : ∀ W, _)
      have HSB : Hid (∀ W5 : World, Kb 0 wr W5 → (∀ j, W5.frozen? ⟨P8, j, none⟩ = false) ∧ ∀ W9 : World, W9 = (W5.setCell ⟨P8, 0, none⟩ (.slice none 0 0)).setCell ⟨P8, 1, none⟩ (.slice none 0 0) → Kb 0 w2 W9 ∧ W9.heap[P8]? = some (.cells #[.slice none 0 0, .slice none 0 0] 30 (0, 0))) := (fun W5 k5 => hX.putN k5 : ∀ W5 : World, _)
      obtain ⟨NN, hNN⟩ : ∃ NN, NN = (sqD D F i).n := ⟨_, rfl⟩
      obtain ⟨MM, hMM⟩ : ∃ MM, MM = (sqD D F i).m := ⟨_, rfl⟩
      rw [← hNN] at HPB c0
      rw [← hMM] at HPB c1
      clear hX c2 HA HOK HV hrv hcl hsi hi hil hNN hMM HBAD hKN
      go_upto_region 7 with fail
      refine AnyL.region (S := fun W' => W'.cell? ⟨P8, 0, none⟩ = some (.slice x1 NN xc1) ∧ W'.cell? ⟨P8, 1, none⟩ = some (.slice x2 MM xc2) ∧ W'.cell? ⟨(a.add (i * 3)).block, (a.add (i * 3)).off + 1, none⟩ = some (.int .i64 (F i).b) ∧ W'.cell? ⟨(a.add (i * 3)).block, (a.add (i * 3)).off + 2, none⟩ = some (.slice q0 (F i).c r0)) (z := 12) (by kernel_rfl) ?_
      have hS0 : (fun W' : World => W'.cell? ⟨P8, 0, none⟩ = some (.slice x1 NN xc1) ∧ W'.cell? ⟨P8, 1, none⟩ = some (.slice x2 MM xc2) ∧ W'.cell? ⟨(a.add (i * 3)).block, (a.add (i * 3)).off + 1, none⟩ = some (.int .i64 (F i).b) ∧ W'.cell? ⟨(a.add (i * 3)).block, (a.add (i * 3)).off + 2, none⟩ = some (.slice q0 (F i).c r0)) wr.drew := ⟨c0, c1, d1, d2⟩
      have HKD : Hid (Kb 0 wr wr.drew) := (Kb.drewN (Kb.refl _ _) 1 : Kb 0 wr wr.drew)
      obtain ⟨W0, hW0⟩ : ∃ W0, W0 = wr.drew := ⟨_, rfl⟩
      rw [← hW0] at HKD hS0 ⊢
      clear hW0 c0 c1 d1 d2
      refine AnyL.takeAt 0 (.agg #[.slice x1 NN xc1, .slice x2 MM xc2]) rfl (by kernel_rfl) (by kernel_rfl) (by kernel_rfl) (by kernel_rfl) (fun _ _ _ h => h) rfl hS0 (by intro W hW; first | go_simp | (obtain ⟨i0, i1, i2, i3⟩ := hW; go_simp)) ?_
      try simp only [Act.put, List.setIfInBounds_toArray, List.set_cons_zero, List.set_cons_succ]
      refine AnyL.takeAt 1 (.slice (some a) no co) rfl (by kernel_rfl) (by kernel_rfl) (by kernel_rfl) (by kernel_rfl) (fun _ _ _ h => h) rfl hS0 (by intro W hW; first | go_simp | (obtain ⟨i0, i1, i2, i3⟩ := hW; go_simp)) ?_
      try simp only [Act.put, List.setIfInBounds_toArray, List.set_cons_zero, List.set_cons_succ]
      refine AnyL.takeAt 2 (.int .i64 (i : Int)) rfl (by kernel_rfl) (by kernel_rfl) (by kernel_rfl) (by kernel_rfl) (fun _ _ _ h => h) rfl hS0 (by intro W hW; first | go_simp | (obtain ⟨i0, i1, i2, i3⟩ := hW; go_simp)) ?_
      try simp only [Act.put, List.setIfInBounds_toArray, List.set_cons_zero, List.set_cons_succ]
      refine AnyL.takeAt 3 (.pointer (some (a.add (i * 3)))) rfl (by kernel_rfl) (by kernel_rfl) (by kernel_rfl) (by kernel_rfl) (fun _ _ _ h => h) rfl hS0 (by intro W hW; go_simp; intro hx; exfalso; omega) ?_
      try simp only [Act.put, List.setIfInBounds_toArray, List.set_cons_zero, List.set_cons_succ]
      refine AnyL.takeAt 4 (.pointer (some ⟨(a.add (i * 3)).block, (a.add (i * 3)).off + 1, none⟩)) rfl (by kernel_rfl) (by kernel_rfl) (by kernel_rfl) (by kernel_rfl) (fun _ _ _ h => h) rfl hS0 (by intro W hW; first | go_simp | (obtain ⟨i0, i1, i2, i3⟩ := hW; go_simp)) ?_
      try simp only [Act.put, List.setIfInBounds_toArray, List.set_cons_zero, List.set_cons_succ]
      refine AnyL.takeAt 5 (.int .i64 (F i).b) rfl (by kernel_rfl) (by kernel_rfl) (by kernel_rfl) (by kernel_rfl) (fun _ _ _ h => h) rfl hS0 (by intro W hW; first | go_simp | (obtain ⟨i0, i1, i2, i3⟩ := hW; go_simp)) ?_
      try simp only [Act.put, List.setIfInBounds_toArray, List.set_cons_zero, List.set_cons_succ]
      refine AnyL.takeAt 6 (.slice (some a) no co) rfl (by kernel_rfl) (by kernel_rfl) (by kernel_rfl) (by kernel_rfl) (fun _ _ _ h => h) rfl hS0 (by intro W hW; first | go_simp | (obtain ⟨i0, i1, i2, i3⟩ := hW; go_simp)) ?_
      try simp only [Act.put, List.setIfInBounds_toArray, List.set_cons_zero, List.set_cons_succ]
      refine AnyL.takeAt 7 (.int .i64 (i : Int)) rfl (by kernel_rfl) (by kernel_rfl) (by kernel_rfl) (by kernel_rfl) (fun _ _ _ h => h) rfl hS0 (by intro W hW; first | go_simp | (obtain ⟨i0, i1, i2, i3⟩ := hW; go_simp)) ?_
      try simp only [Act.put, List.setIfInBounds_toArray, List.set_cons_zero, List.set_cons_succ]
      refine AnyL.takeAt 8 (.pointer (some (a.add (i * 3)))) rfl (by kernel_rfl) (by kernel_rfl) (by kernel_rfl) (by kernel_rfl) (fun _ _ _ h => h) rfl hS0 (by intro W hW; go_simp; intro hx; exfalso; omega) ?_
      try simp only [Act.put, List.setIfInBounds_toArray, List.set_cons_zero, List.set_cons_succ]
      refine AnyL.takeAt 9 (.pointer (some ⟨(a.add (i * 3)).block, (a.add (i * 3)).off + 2, none⟩)) rfl (by kernel_rfl) (by kernel_rfl) (by kernel_rfl) (by kernel_rfl) (fun _ _ _ h => h) rfl hS0 (by intro W hW; first | go_simp | (obtain ⟨i0, i1, i2, i3⟩ := hW; go_simp)) ?_
      try simp only [Act.put, List.setIfInBounds_toArray, List.set_cons_zero, List.set_cons_succ]
      refine AnyL.takeAt 10 (.slice q0 (F i).c r0) rfl (by kernel_rfl) (by kernel_rfl) (by kernel_rfl) (by kernel_rfl) (fun _ _ _ h => h) rfl hS0 (by intro W hW; first | go_simp | (obtain ⟨i0, i1, i2, i3⟩ := hW; go_simp)) ?_
      try simp only [Act.put, List.setIfInBounds_toArray, List.set_cons_zero, List.set_cons_succ]
      refine AnyL.oneAt 11 rfl (by kernel_rfl) rfl ?_
      intro K hK
      go_simp
      refine ((show ∀ W, Kb 0 wr W → _ from HPB) W0 HKD).mono ?_
      rintro e W5 ⟨rfl, k5⟩
      have k05 := (show Kb 0 wr W0 from HKD).trans k5
      have hS5 : (fun W' : World => W'.cell? ⟨P8, 0, none⟩ = some (.slice x1 NN xc1) ∧ W'.cell? ⟨P8, 1, none⟩ = some (.slice x2 MM xc2) ∧ W'.cell? ⟨(a.add (i * 3)).block, (a.add (i * 3)).off + 1, none⟩ = some (.int .i64 (F i).b) ∧ W'.cell? ⟨(a.add (i * 3)).block, (a.add (i * 3)).off + 2, none⟩ = some (.slice q0 (F i).c r0)) W5 := ⟨k5.cell hS0.1, k5.cell hS0.2.1, k5.cell hS0.2.2.1, k5.cell hS0.2.2.2⟩
      have HNX := (show ∀ W5 : World, _ from HSB) W5 k05
      clear HPB HSB k5 k05 HKD hS0
      refine hK.out _ _ (fun _ => hS5) ?_
      clear hK K
      try simp only [Act.put, List.setIfInBounds_toArray, List.set_cons_zero, List.set_cons_succ]
      refine AnyL.oneAt 12 rfl (by kernel_rfl) rfl ?_
      intro K hK
      have fy : ∀ j, W5.frozen? ⟨P8, j, none⟩ = false := HNX.1
      have y0 := hS5.1
      have y1 := hS5.2.1
      go_simp
      generalize hW9 : World.setCell (World.setCell W5 _ _) _ _ = W9
      have HX9 : Hid (Kb 0 w2 W9 ∧ W9.heap[P8]? = some (.cells #[.slice none 0 0, .slice none 0 0] 30 (0, 0))) := HNX.2 W9 hW9.symm
      clear HNX hW9 fy y0 y1 hS5
      refine hK.out _ _ (fun h => absurd rfl h) ?_
      clear hK K
      try simp only [Act.put, List.setIfInBounds_toArray, List.set_cons_zero, List.set_cons_succ]
      refine AnyL.done (by kernel_rfl) ?_
      obtain ⟨k29, b9⟩ := (show _ ∧ _ from HX9)
      have e0 : W9.cell? ⟨P8, 0, none⟩ = some (.slice none 0 0) := cell_of b9 rfl
      have e1 : W9.cell? ⟨P8, 1, none⟩ = some (.slice none 0 0) := cell_of b9 rfl
      have HD9 := dok_nil W9
      have HK9 : Hid (Kb 0 w2 W9) := k29
      clear k29 b9 HX9
      go_wp2_with fail
      refine HD9.mono ?_
      rintro e w10 ⟨rfl, k10⟩
      have k210 := (show Kb 0 w2 W9 from HK9).trans k10
      obtain ⟨kw2, b0, b1, z2⟩ := (show _ ∧ _ ∧ _ ∧ _ from HB)
      have r := (k210.block (w.heap.size + 1) (Nat.zero_le _) (by omega)).trans b1
      have a0 : w10.cell? ⟨w.heap.size + 1, 0, none⟩ = some (.slice none 0 0) := cell_of r rfl
      have a1 : w10.cell? ⟨w.heap.size + 1, 1, none⟩ = some (.slice none 0 0) := cell_of r rfl
      have fy : ∀ j, w10.frozen? ⟨w.heap.size + 1, j, none⟩ = false := fun j => frozen_of r
      obtain ⟨WF, hWF⟩ : ∃ WF, WF = (w10.setCell ⟨w.heap.size + 1, 0, none⟩ (.slice none 0 0)).setCell ⟨w.heap.size + 1, 1, none⟩ (.slice none 0 0) := ⟨_, rfl⟩
      have zF : WF.heap.size = w10.heap.size := by rw [hWF]; simp
      have bF : ∀ q, q ≠ w.heap.size + 1 → WF.heap[q]? = w10.heap[q]? := fun q hq => by
        rw [hWF, Below.heap_setCell _ _ _ _ (show q ≠ w.heap.size + 1 from hq), Below.heap_setCell _ _ _ _ (show q ≠ w.heap.size + 1 from hq)]
      have rF : WF.heap[w.heap.size + 1]? = some (.cells #[.slice none 0 0, .slice none 0 0] 30 (0, 0)) := by
        rw [hWF]
        exact set_known _ (set_known _ r)
      have f3 : WF.cell? ⟨w.heap.size + 1, 0, none⟩ = some (.slice none 0 0) := cell_of rF rfl
      have f4 : WF.cell? ⟨w.heap.size + 1, 1, none⟩ = some (.slice none 0 0) := cell_of rF rfl
      have kF : Kb 0 w WF := by rw [hWF]; exact ((kw2.trans k210).setCell _ (.inr (by show _ ≤ w.heap.size + 1; omega)) _).setCell _ (.inr (by show _ ≤ w.heap.size + 1; omega)) _
      have HF : Hid (Kb 0 w WF) := kF
      have HWF : Hid (WF = _) := hWF
      clear HD9 HK9 k10 k210 kw2 b0 b1 z2 r zF bF rF hWF kF HB e0 e1
      go_wp2_with fail
      rw [← (show WF = _ from HWF)]
      clear HWF
      refine bodyPost_ret (by simp [results, Try.results75, go_sem, f3, f4]; rfl) rfl ?_
      exact ⟨rfl, HF⟩
    obtain ⟨c0, c1, c2⟩ := hX.cells
    have hiI : (i : Int) < (N : Int) := by omega
    have hin : i < N := by omega
    obtain ⟨a, q0, r0, rfl, hca, d0, d1, d2, hrv, hcl⟩ := (show ∀ W, Kb 0 w2 W → ∀ i, i < N → _ from HA) wr hX.kb i hin
    have hoki := (show ∀ i, i ≤ K → _ from HOK) i (by omega)
    have hok1 := (show ∀ i, i ≤ K → _ from HOK) (i + 1) (by omega)
    have hvi := (show ∀ i, i < K → _ from HV) i hi
    have HDK : Hid (∀ (W : World) v1 v2, RowD 0 W v1 v2 (sqD D F (i + 1)) → Calls Try.prog 43 #[.agg #[v1, v2]] W fun e w' => e = .returned (.bool true) ∧ Kb 0 W w') := (fun W v1 v2 h => by
      have := sp_dok W h (bd_dok hok1)
      rw [dc_t hok1] at this
      exact this : ∀ (W : World) v1 v2, _)
    have HST : Hid (∀ (W5 : World) u1 u2, Kb 0 wr W5 → OwD wr.heap.size W5.heap.size W5 u1 u2 (sqD D F (i + 1)) → (∀ j, W5.frozen? ⟨P8, j, none⟩ = false) ∧ ∀ W9 : World, W9 = (W5.setCell ⟨P8, 0, none⟩ u1).setCell ⟨P8, 1, none⟩ u2 → AL w2 P8 (sqD D F (i + 1)) u1 u2 W9) := (fun W5 u1 u2 k5 o5 => hX.put k5 o5 : ∀ (W5 : World) u1 u2, _)
    cases hsi : (F i).s with
    | true =>
      rw [hsi] at d0
      have HSY : Calls Try.prog 106 #[.agg #[.slice x1 (sqD D F i).n xc1, .slice x2 (sqD D F i).m xc2]] wr fun e w' => ∃ u1 u2, e = .returned (.agg #[u1, u2]) ∧ OwD wr.heap.size w'.heap.size w' u1 u2 (sqD D F (i + 1)) ∧ Kb 0 wr w' := by
        have := sp_sync_yes wr c2 (bd_dok hoki) hoki
        have e : sqD D F (i + 1) = ⟨258, pE (stl (dpg (sqD D F i)) (sqD D F i).Q (sqD D F i).m), 0, fun _ => zE⟩ := nxt_t hsi
        rw [e]
        exact this
      clear hX c2 hrv hcl hoki hok1 hvi hsi d1 d2 hil
      go_wp2_with fail
      refine HSY.mono ?_
      rintro e W5 ⟨u1', u2', rfl, o5, k5⟩
      obtain ⟨u1, uc1, u2, uc2, rfl, rfl⟩ := o5.shape
      obtain ⟨fy, HNX⟩ := (show ∀ (W5 : World) u1 u2, _ from HST) W5 _ _ k5 o5
      have y0 := k5.cell c0
      have y1 := k5.cell c1
      obtain ⟨W9, hW9⟩ : ∃ W9, W9 = (W5.setCell ⟨P8, 0, none⟩ (.slice u1 (sqD D F (i + 1)).n uc1)).setCell ⟨P8, 1, none⟩ (.slice u2 (sqD D F (i + 1)).m uc2) := ⟨_, rfl⟩
      have HX9 : Hid (AL w2 P8 (sqD D F (i + 1)) (.slice u1 (sqD D F (i + 1)).n uc1) (.slice u2 (sqD D F (i + 1)).m uc2) W9) := HNX W9 hW9
      have HW9 : Hid (W9 = _) := hW9
      clear HSY o5 k5 HNX HST c0 c1 hW9
      go_upto_region 8 with fail
      rw [← (show W9 = _ from HW9)]
      clear HW9 y0 y1 fy
      obtain ⟨e0, e1, e2⟩ := (show AL w2 P8 (sqD D F (i + 1)) (.slice u1 (sqD D F (i + 1)).n uc1) (.slice u2 (sqD D F (i + 1)).m uc2) W9 from HX9).cells
      have HD9 := (show ∀ (W : World) v1 v2, _ from HDK) W9 _ _ e2
      clear e2
      go_wp2_with fail
      refine HD9.mono ?_
      rintro e w10 ⟨rfl, k10⟩
      have HN : Hid (AL w2 P8 (sqD D F (i + 1)) (.slice u1 (sqD D F (i + 1)).n uc1) (.slice u2 (sqD D F (i + 1)).m uc2) w10) := (show AL w2 P8 (sqD D F (i + 1)) (.slice u1 (sqD D F (i + 1)).n uc1) (.slice u2 (sqD D F (i + 1)).m uc2) W9 from HX9).keep k10
      clear HD9 k10 e0 e1 HX9
      go_wp2_with fail
      go_roundw
      case rel => exact ⟨i + 1, by go_num, by omega, _, _, _, _, HN⟩
      case measure => simp [intOf]; omega
    | false =>
      rw [hsi] at d0
      have HPB : Hid (∀ W, Kb 0 wr W → Calls Try.prog 10 #[.agg #[.slice x1 (sqD D F i).n xc1, .slice x2 (sqD D F i).m xc2], .int .i64 (F i).b, .slice q0 (F i).c r0] W fun e w' => ∃ u1 u2, e = .returned (.agg #[u1, u2]) ∧ OwD W.heap.size w'.heap.size w' u1 u2 (sqD D F (i + 1)) ∧ Kb 0 W w') := (fun W k => by
        obtain ⟨⟨hb1, hb2, hc⟩, hm⟩ := hvi.resolve_left (by rw [hsi]; decide)
        have e : sqD D F (i + 1) = pD (sqD D F i) (F i).b (F i).A := nxt_f hsi
        rw [e]
        rw [hc] at hrv ⊢
        exact sp_put_yes (F i).b W (c2.keep k) (bd_dok hoki) hoki ⟨hb1, hb2⟩ (rowv_keep hrv k) hm : ∀ W, _)
      obtain ⟨NN, hNN⟩ : ∃ NN, NN = (sqD D F i).n := ⟨_, rfl⟩
      obtain ⟨MM, hMM⟩ : ∃ MM, MM = (sqD D F i).m := ⟨_, rfl⟩
      rw [← hNN] at HPB c0
      rw [← hMM] at HPB c1
      clear hX c2 hrv hcl hoki hok1 hvi hsi hil hNN hMM
      go_upto_region 7 with fail
      refine AnyL.region (S := fun W' => W'.cell? ⟨P8, 0, none⟩ = some (.slice x1 NN xc1) ∧ W'.cell? ⟨P8, 1, none⟩ = some (.slice x2 MM xc2) ∧ W'.cell? ⟨(a.add (i * 3)).block, (a.add (i * 3)).off + 1, none⟩ = some (.int .i64 (F i).b) ∧ W'.cell? ⟨(a.add (i * 3)).block, (a.add (i * 3)).off + 2, none⟩ = some (.slice q0 (F i).c r0)) (z := 12) (by kernel_rfl) ?_
      have hS0 : (fun W' : World => W'.cell? ⟨P8, 0, none⟩ = some (.slice x1 NN xc1) ∧ W'.cell? ⟨P8, 1, none⟩ = some (.slice x2 MM xc2) ∧ W'.cell? ⟨(a.add (i * 3)).block, (a.add (i * 3)).off + 1, none⟩ = some (.int .i64 (F i).b) ∧ W'.cell? ⟨(a.add (i * 3)).block, (a.add (i * 3)).off + 2, none⟩ = some (.slice q0 (F i).c r0)) wr.drew := ⟨c0, c1, d1, d2⟩
      have HKD : Hid (Kb 0 wr wr.drew) := (Kb.drewN (Kb.refl _ _) 1 : Kb 0 wr wr.drew)
      obtain ⟨W0, hW0⟩ : ∃ W0, W0 = wr.drew := ⟨_, rfl⟩
      rw [← hW0] at HKD hS0 ⊢
      clear hW0 c0 c1 d1 d2
      refine AnyL.takeAt 0 (.agg #[.slice x1 NN xc1, .slice x2 MM xc2]) rfl (by kernel_rfl) (by kernel_rfl) (by kernel_rfl) (by kernel_rfl) (fun _ _ _ h => h) rfl hS0 (by intro W hW; first | go_simp | (obtain ⟨i0, i1, i2, i3⟩ := hW; go_simp)) ?_
      try simp only [Act.put, List.setIfInBounds_toArray, List.set_cons_zero, List.set_cons_succ]
      refine AnyL.takeAt 1 (.slice (some a) no co) rfl (by kernel_rfl) (by kernel_rfl) (by kernel_rfl) (by kernel_rfl) (fun _ _ _ h => h) rfl hS0 (by intro W hW; first | go_simp | (obtain ⟨i0, i1, i2, i3⟩ := hW; go_simp)) ?_
      try simp only [Act.put, List.setIfInBounds_toArray, List.set_cons_zero, List.set_cons_succ]
      refine AnyL.takeAt 2 (.int .i64 (i : Int)) rfl (by kernel_rfl) (by kernel_rfl) (by kernel_rfl) (by kernel_rfl) (fun _ _ _ h => h) rfl hS0 (by intro W hW; first | go_simp | (obtain ⟨i0, i1, i2, i3⟩ := hW; go_simp)) ?_
      try simp only [Act.put, List.setIfInBounds_toArray, List.set_cons_zero, List.set_cons_succ]
      refine AnyL.takeAt 3 (.pointer (some (a.add (i * 3)))) rfl (by kernel_rfl) (by kernel_rfl) (by kernel_rfl) (by kernel_rfl) (fun _ _ _ h => h) rfl hS0 (by intro W hW; go_simp; intro hx; exfalso; omega) ?_
      try simp only [Act.put, List.setIfInBounds_toArray, List.set_cons_zero, List.set_cons_succ]
      refine AnyL.takeAt 4 (.pointer (some ⟨(a.add (i * 3)).block, (a.add (i * 3)).off + 1, none⟩)) rfl (by kernel_rfl) (by kernel_rfl) (by kernel_rfl) (by kernel_rfl) (fun _ _ _ h => h) rfl hS0 (by intro W hW; first | go_simp | (obtain ⟨i0, i1, i2, i3⟩ := hW; go_simp)) ?_
      try simp only [Act.put, List.setIfInBounds_toArray, List.set_cons_zero, List.set_cons_succ]
      refine AnyL.takeAt 5 (.int .i64 (F i).b) rfl (by kernel_rfl) (by kernel_rfl) (by kernel_rfl) (by kernel_rfl) (fun _ _ _ h => h) rfl hS0 (by intro W hW; first | go_simp | (obtain ⟨i0, i1, i2, i3⟩ := hW; go_simp)) ?_
      try simp only [Act.put, List.setIfInBounds_toArray, List.set_cons_zero, List.set_cons_succ]
      refine AnyL.takeAt 6 (.slice (some a) no co) rfl (by kernel_rfl) (by kernel_rfl) (by kernel_rfl) (by kernel_rfl) (fun _ _ _ h => h) rfl hS0 (by intro W hW; first | go_simp | (obtain ⟨i0, i1, i2, i3⟩ := hW; go_simp)) ?_
      try simp only [Act.put, List.setIfInBounds_toArray, List.set_cons_zero, List.set_cons_succ]
      refine AnyL.takeAt 7 (.int .i64 (i : Int)) rfl (by kernel_rfl) (by kernel_rfl) (by kernel_rfl) (by kernel_rfl) (fun _ _ _ h => h) rfl hS0 (by intro W hW; first | go_simp | (obtain ⟨i0, i1, i2, i3⟩ := hW; go_simp)) ?_
      try simp only [Act.put, List.setIfInBounds_toArray, List.set_cons_zero, List.set_cons_succ]
      refine AnyL.takeAt 8 (.pointer (some (a.add (i * 3)))) rfl (by kernel_rfl) (by kernel_rfl) (by kernel_rfl) (by kernel_rfl) (fun _ _ _ h => h) rfl hS0 (by intro W hW; go_simp; intro hx; exfalso; omega) ?_
      try simp only [Act.put, List.setIfInBounds_toArray, List.set_cons_zero, List.set_cons_succ]
      refine AnyL.takeAt 9 (.pointer (some ⟨(a.add (i * 3)).block, (a.add (i * 3)).off + 2, none⟩)) rfl (by kernel_rfl) (by kernel_rfl) (by kernel_rfl) (by kernel_rfl) (fun _ _ _ h => h) rfl hS0 (by intro W hW; first | go_simp | (obtain ⟨i0, i1, i2, i3⟩ := hW; go_simp)) ?_
      try simp only [Act.put, List.setIfInBounds_toArray, List.set_cons_zero, List.set_cons_succ]
      refine AnyL.takeAt 10 (.slice q0 (F i).c r0) rfl (by kernel_rfl) (by kernel_rfl) (by kernel_rfl) (by kernel_rfl) (fun _ _ _ h => h) rfl hS0 (by intro W hW; first | go_simp | (obtain ⟨i0, i1, i2, i3⟩ := hW; go_simp)) ?_
      try simp only [Act.put, List.setIfInBounds_toArray, List.set_cons_zero, List.set_cons_succ]
      refine AnyL.oneAt 11 rfl (by kernel_rfl) rfl ?_
      intro K hK
      go_simp
      refine ((show ∀ W, Kb 0 wr W → _ from HPB) W0 HKD).mono ?_
      rintro e W5 ⟨u1', u2', rfl, o5, k5⟩
      obtain ⟨u1, uc1, u2, uc2, rfl, rfl⟩ := o5.shape
      have k05 := (show Kb 0 wr W0 from HKD).trans k5
      have hS5 : (fun W' : World => W'.cell? ⟨P8, 0, none⟩ = some (.slice x1 NN xc1) ∧ W'.cell? ⟨P8, 1, none⟩ = some (.slice x2 MM xc2) ∧ W'.cell? ⟨(a.add (i * 3)).block, (a.add (i * 3)).off + 1, none⟩ = some (.int .i64 (F i).b) ∧ W'.cell? ⟨(a.add (i * 3)).block, (a.add (i * 3)).off + 2, none⟩ = some (.slice q0 (F i).c r0)) W5 := ⟨k5.cell hS0.1, k5.cell hS0.2.1, k5.cell hS0.2.2.1, k5.cell hS0.2.2.2⟩
      have HNX := (show ∀ (W5 : World) u1 u2, _ from HST) W5 _ _ k05 (by have := (show Kb 0 wr W0 from HKD).size; exact o5.wide this (Nat.le_refl _))
      clear HPB HST o5 k5 k05 HKD hS0
      refine hK.out _ _ (fun _ => hS5) ?_
      clear hK K
      try simp only [Act.put, List.setIfInBounds_toArray, List.set_cons_zero, List.set_cons_succ]
      refine AnyL.oneAt 12 rfl (by kernel_rfl) rfl ?_
      intro K hK
      have fy : ∀ j, W5.frozen? ⟨P8, j, none⟩ = false := HNX.1
      have y0 := hS5.1
      have y1 := hS5.2.1
      go_simp
      generalize hW9 : World.setCell (World.setCell W5 _ _) _ _ = W9
      have HX9 : Hid (AL w2 P8 (sqD D F (i + 1)) (.slice u1 (sqD D F (i + 1)).n uc1) (.slice u2 (sqD D F (i + 1)).m uc2) W9) := HNX.2 W9 hW9.symm
      clear HNX hW9 fy y0 y1 hS5
      refine hK.out _ _ (fun h => absurd rfl h) ?_
      clear hK K
      try simp only [Act.put, List.setIfInBounds_toArray, List.set_cons_zero, List.set_cons_succ]
      refine AnyL.done (by kernel_rfl) ?_
      obtain ⟨e0, e1, e2⟩ := (show AL w2 P8 (sqD D F (i + 1)) (.slice u1 (sqD D F (i + 1)).n uc1) (.slice u2 (sqD D F (i + 1)).m uc2) W9 from HX9).cells
      have HD9 := (show ∀ (W : World) v1 v2, _ from HDK) W9 _ _ e2
      clear e2
      go_wp2_with fail
      refine HD9.mono ?_
      rintro e w10 ⟨rfl, k10⟩
      have HN : Hid (AL w2 P8 (sqD D F (i + 1)) (.slice u1 (sqD D F (i + 1)).n uc1) (.slice u2 (sqD D F (i + 1)).m uc2) w10) := (show AL w2 P8 (sqD D F (i + 1)) (.slice u1 (sqD D F (i + 1)).n uc1) (.slice u2 (sqD D F (i + 1)).m uc2) W9 from HX9).keep k10
      clear HD9 k10 e0 e1 HX9
      go_wp2_with fail
      go_roundw
      case rel => exact ⟨i + 1, by go_num, by omega, _, _, _, _, HN⟩
      case measure => simp [intOf]; omega
end Go.Proofs.Ytiojjejphdhpeaa.Fo
