import Derived.Test.YtbbjbojjglhgmaaDdf
import Derived.Test.YtbbjbojjglhgmaaDde
import Derived.Test.YtbbjbojjglhgmaaDai
namespace Go.Proofs.Ytbbjbojjglhgmaa.Fo
open Go.ChangeShapes Go.WideShapes Go.ChangeAt Go.RowKit
set_option linter.unusedVariables false
set_option maxRecDepth 100000
set_option linter.unusedSimpArgs false
set_option maxHeartbeats 8000000 in
theorem sp_l53read {v1 v2 : Value} {m : Nat} {B Q : Nat → Ed} (bn : Nat) (w : World) (ha : RowD 0 w v1 v2 ⟨258, B, m, Q⟩) (hok : Dok ⟨258, B, m, Q⟩) (hb : bn < 258) :
    Calls Try.prog 95 #[.agg #[v1, v2], .int .i64 (bn : Int)] w fun e w' => ∃ v g, e = .returned v ∧ OwnR w' v g 64 (ub (rdl (fun i => (B i).A) Q bn m)) ∧ (w.heap.size ≤ g ∧ g < w'.heap.size) ∧ Kb 0 w w' := by
  have hmm : m ≤ 200 := hok.2.1
  have hB64 : ∀ i, i < 258 → (B i).c = 64 := hok.2.2.1
  have hQ64 : ∀ i, i < m → Wok (Q i).b (Q i).c := hok.2.2.2
  obtain ⟨⟨p1, c1, rfl, ha1⟩, ⟨p2, c2, rfl, ha2⟩⟩ := id ha
  dsimp only at ha1 ha2
  obtain ⟨w1, hw1⟩ : ∃ w1, w1 = w.alloc (.cells #[.slice p1 258 c1, .slice p2 m c2] 40) := ⟨_, rfl⟩
  have k1 : Kb 0 w w1 := by rw [hw1]; exact kb_alloc _ _ _
  have b1 : w1.heap[w.heap.size]? = some (.cells #[.slice p1 258 c1, .slice p2 m c2] 40 (0, 0)) := by rw [hw1]; exact alloc_new _ _ _
  have u0 : w1.cell? ⟨w.heap.size, 0, none⟩ = some (.slice p1 258 c1) := cell_of b1 rfl
  have u1 : w1.cell? ⟨w.heap.size, 1, none⟩ = some (.slice p2 m c2) := cell_of b1 rfl
  have HA1 : Hid (∃ a : Addr, p1 = some a ∧ 258 ≤ c1 ∧ ∀ i, i < 258 → ElC 1 0 w1 (a.add (i * 1)) (B i) ∧ (B i).c = 64) := (by obtain ⟨a, e1, e2, _, e3⟩ := ha1 (by omega); exact ⟨a, e1, e2, fun i hi => ⟨(e3 i hi).keep (.inl rfl) (Nat.zero_le _) k1, hB64 i hi⟩⟩ : ∃ a : Addr, p1 = some a ∧ 258 ≤ c1 ∧ ∀ i, i < 258 → ElC 1 0 w1 (a.add (i * 1)) (B i) ∧ (B i).c = 64)
  have HA2 : Hid (0 < m → ∃ a : Addr, p2 = some a ∧ m ≤ c2 ∧ ∀ i, i < m → ElC 2 0 w1 (a.add (i * 2)) (Q i) ∧ Wok (Q i).b (Q i).c) := (fun q => by obtain ⟨a, e1, e2, _, e3⟩ := ha2 q; exact ⟨a, e1, e2, fun i hi => ⟨(e3 i hi).keep (.inr (.inl rfl)) (Nat.zero_le _) k1, hQ64 i hi⟩⟩ : 0 < m → _)
  have HCP : Hid (∀ (va : Value) (A : Nat → Int), RowV w1 va 64 (ub A) → Calls Try.prog 89 #[va] w1 fun e w' => ∃ v g, e = .returned v ∧ OwnR w' v g 64 (ub A) ∧ (w.heap.size ≤ g ∧ g < w'.heap.size) ∧ Kb 0 w w') := (fun va A h => (sp_copy w1 h (by omega)).mono (fun e w' ⟨v, g, e1, o1, l1, k2⟩ => ⟨v, g, e1, o1, ⟨Nat.le_trans k1.size (l1 (by omega)).1, (l1 (by omega)).2⟩, k1.trans k2⟩) : ∀ (va : Value) (A : Nat → Int), _)
  have HW1 : Hid (w1 = w.alloc (.cells #[.slice p1 258 c1, .slice p2 m c2] 40)) := hw1
  obtain ⟨RR, hRR⟩ : ∃ RR, RR = rdl (fun i => (B i).A) Q bn m := ⟨_, rfl⟩
  rw [← hRR]
  have HR : Hid (RR = rdl (fun i => (B i).A) Q bn m) := hRR
  have hbI : (bn : Int) < 258 := by omega
  clear hw1 k1 b1 ha hok hB64 hQ64 ha1 ha2 hRR
  go_enter Try.func95, Try.ntmps95
  go_upto_region 1 with fail
  rw [← (show w1 = _ from HW1)]
  clear HW1
  go_wp2_with fail
  go_loopw [5] (fun s5 wr => ∃ k : Nat, s5 = .int .i64 ((k : Int) - 1) ∧ k ≤ m ∧ wr = w1 ∧ Hid (RR = rdl (fun i => (B i).A) Q bn k)) (fun s5 _ => (intOf s5 + 1).toNat)
  case atStart => exact ⟨m, rfl, Nat.le_refl _, rfl, HR⟩
  case round =>
    clear HR
    obtain ⟨k, rfl, hkl, rfl, HX⟩ := hrel
    have hX := (show RR = rdl (fun i => (B i).A) Q bn k from HX)
    clear HX
    cases k with
    | zero =>
      rw [show (((0 : Nat) : Int) - 1) = (-1 : Int) from rfl]
      obtain ⟨a, rfl, hca, hra⟩ := (show ∃ a : Addr, _ from HA1)
      obtain ⟨⟨vc, x0, xt, hvc⟩, h64⟩ := hra bn hb
      rw [h64] at hvc
      obtain ⟨q0, r0, rfl, -⟩ := id hvc
      have d0 : wr.cell? (a.add bn) = some (.slice q0 64 r0) := by have := x0; rw [Nat.mul_one] at this; exact this
      have HC := (show ∀ (va : Value) (A : Nat → Int), _ from HCP) _ _ hvc.row
      rw [rdl] at hX
      rw [← hX] at HC
      clear hX hra x0 xt h64 HA2 HCP hvc
      go_wp2_with fail
      refine HC.mono ?_
      rintro e w3 ⟨v, g, rfl, o3⟩
      have HO : Hid (OwnR w3 v g 64 (ub RR) ∧ (w.heap.size ≤ g ∧ g < w3.heap.size) ∧ Kb 0 w w3) := o3
      obtain ⟨p3, c3, rfl, -⟩ := id o3.1.sl
      clear HC o3 d0 u0 u1
      go_wp2_with fail
      go_ret
      exact ⟨_, g, rfl, HO⟩
    | succ j =>
      rw [show (((j + 1 : Nat) : Int) - 1) = (j : Int) by omega]
      have hj : j < m := by omega
      have hjI : (j : Int) < (m : Int) := by omega
      obtain ⟨a, rfl, hca, hra⟩ := (show 0 < m → _ from HA2) (by omega)
      obtain ⟨⟨vc, x0, xt, hvc⟩, _, _, h64⟩ := hra j hj
      rw [h64] at hvc
      obtain ⟨q0, r0, rfl, -⟩ := id hvc
      have d0 : wr.cell? (a.add (j * 2)) = some (.int .i64 (Q j).b) := x0
      have d1 : wr.cell? ⟨(a.add (j * 2)).block, (a.add (j * 2)).off + 1, none⟩ = some (.slice q0 64 r0) := xt 1 (by omega) (by omega)
      have HC := (show ∀ (va : Value) (A : Nat → Int), _ from HCP) _ _ hvc.row
      rw [rdl] at hX
      obtain ⟨fb, hfb⟩ : ∃ fb, fb = (Q j).b := ⟨_, rfl⟩
      rw [← hfb] at d0 hX
      clear hfb hvc x0 xt h64
      by_cases e : fb = (bn : Int)
      · rw [if_pos e] at hX
        rw [← hX] at HC
        subst e
        clear hX hra HCP
        go_wp2_with fail
        refine HC.mono ?_
        rintro e w3 ⟨v, g, rfl, o3⟩
        have HO : Hid (OwnR w3 v g 64 (ub RR) ∧ (w.heap.size ≤ g ∧ g < w3.heap.size) ∧ Kb 0 w w3) := o3
        obtain ⟨p3, c3, rfl, -⟩ := id o3.1.sl
        clear HC o3 d0 d1 u0 u1
        go_wp2_with fail
        go_ret
        exact ⟨_, g, rfl, HO⟩
      · rw [if_neg e] at hX
        have HX : Hid (RR = rdl (fun i => (B i).A) Q bn j) := hX
        clear hX hra HCP HC
        go_wp2_with fail
        go_roundw
        case rel => exact ⟨j, rfl, by omega, trivial, HX⟩
        case measure => simp [intOf] <;> omega
set_option maxHeartbeats 8000000 in
theorem sp_read_yes {v1 v2 : Value} {D : Dd} (b : Int) (w : World) (ha : RowD 0 w v1 v2 D) (hd : BdD D) (hok : Rbk D b) :
    Calls Try.prog 36 #[.agg #[v1, v2], .int .i64 b] w fun e w' => ∃ v g, e = .returned v ∧ OwnR w' v g 64 (ub (rbA D b)) ∧ (w.heap.size ≤ g ∧ g < w'.heap.size) ∧ Kb 0 w w' := by
  obtain ⟨⟨p1, c1, rfl, -⟩, ⟨p2, c2, rfl, -⟩⟩ := id ha
  obtain ⟨w1, hw1⟩ : ∃ w1, w1 = w.alloc (.cells #[.slice p1 D.n c1, .slice p2 D.m c2] 40) := ⟨_, rfl⟩
  have k1 : Kb 0 w w1 := by rw [hw1]; exact kb_alloc _ _ _
  have b1 : w1.heap[w.heap.size]? = some (.cells #[.slice p1 D.n c1, .slice p2 D.m c2] 40 (0, 0)) := by rw [hw1]; exact alloc_new _ _ _
  have z1 : w.heap.size < w1.heap.size := by rw [hw1, World.size_alloc]; omega
  have u0 : w1.cell? ⟨w.heap.size, 0, none⟩ = some (.slice p1 D.n c1) := cell_of b1 rfl
  have u1 : w1.cell? ⟨w.heap.size, 1, none⟩ = some (.slice p2 D.m c2) := cell_of b1 rfl
  have HI := sp_dok w1 (ha.keep k1) hd
  rw [dc_t hok.1] at HI
  have hb0 : ¬ b < 0 := by have := hok.2.1; omega
  have hb1 : ¬ b ≥ 258 := by have := hok.2.2; omega
  have HL : Hid (∀ W, Kb 0 w W → Calls Try.prog 95 #[.agg #[.slice p1 D.n c1, .slice p2 D.m c2], .int .i64 b] W fun e w' => ∃ v g, e = .returned v ∧ OwnR w' v g 64 (ub (rbA D b)) ∧ (W.heap.size ≤ g ∧ g < w'.heap.size) ∧ Kb 0 W w') := (fun W k => by
    have hr := ha.keep k
    obtain ⟨n, Bf, m, Qf⟩ := D
    obtain rfl : n = 258 := hok.1.1
    obtain ⟨bn, rfl⟩ : ∃ bn : Nat, b = (bn : Int) := ⟨b.toNat, by omega⟩
    exact sp_l53read bn W hr hok.1 (by have := hok.2.2; omega) : ∀ W, _)
  have HB : Hid (Kb 0 w w1 ∧ w1.heap[w.heap.size]? = some (.cells #[.slice p1 D.n c1, .slice p2 D.m c2] 40 (0, 0)) ∧ w.heap.size < w1.heap.size) := (⟨k1, b1, z1⟩ : _ ∧ _)
  have HW1 : Hid (w1 = w.alloc (.cells #[.slice p1 D.n c1, .slice p2 D.m c2] 40)) := hw1
  clear hw1 k1 b1 z1 ha hd hok
  go_enter Try.func36, Try.ntmps36
  go_upto_region 1 with fail
  rw [← (show w1 = _ from HW1)]
  clear HW1
  go_wp2_with fail
  refine HI.mono ?_
  rintro e w2 ⟨rfl, k2⟩
  clear HI u0 u1
  obtain ⟨k1, b1, z1⟩ := (show _ ∧ _ ∧ _ from HB)
  have b2 := (k2.block _ (Nat.zero_le _) z1).trans b1
  have k12 := k1.trans k2
  have u0 : w2.cell? ⟨w.heap.size, 0, none⟩ = some (.slice p1 D.n c1) := cell_of b2 rfl
  have u1 : w2.cell? ⟨w.heap.size, 1, none⟩ = some (.slice p2 D.m c2) := cell_of b2 rfl
  have HL2 := (show ∀ W, Kb 0 w W → _ from HL) w2 k12
  have HK : Hid (Kb 0 w w2) := k12
  clear k1 b1 z1 b2 k12 k2 HB HL
  go_wp2_with fail
  refine HL2.mono ?_
  rintro e w3 ⟨v, g, rfl, o3, l3, k3⟩
  have HO : Hid (OwnR w3 v g 64 (ub (rbA D b)) ∧ (w.heap.size ≤ g ∧ g < w3.heap.size) ∧ Kb 0 w w3) := (⟨o3, ⟨Nat.le_trans (show Kb 0 w w2 from HK).size l3.1, l3.2⟩, (show Kb 0 w w2 from HK).trans k3⟩ : _ ∧ _)
  obtain ⟨p3, c3, rfl, -⟩ := id o3.sl
  clear HL2 o3 l3 k3 HK u0 u1
  go_wp2_with fail
  go_ret
  exact ⟨_, g, rfl, HO⟩
set_option maxHeartbeats 8000000 in
theorem sp_read_no {v1 v2 : Value} {D : Dd} (b : Int) (w : World) (ha : RowD 0 w v1 v2 D) (hd : BdD D) (hno : ¬ Rbk D b) :
    Calls Try.prog 36 #[.agg #[v1, v2], .int .i64 b] w fun e w' => e = .returned (.slice none 0 0) ∧ Kb 0 w w' := by
  obtain ⟨⟨p1, c1, rfl, -⟩, ⟨p2, c2, rfl, -⟩⟩ := id ha
  obtain ⟨w1, hw1⟩ : ∃ w1, w1 = w.alloc (.cells #[.slice p1 D.n c1, .slice p2 D.m c2] 40) := ⟨_, rfl⟩
  have k1 : Kb 0 w w1 := by rw [hw1]; exact kb_alloc _ _ _
  have b1 : w1.heap[w.heap.size]? = some (.cells #[.slice p1 D.n c1, .slice p2 D.m c2] 40 (0, 0)) := by rw [hw1]; exact alloc_new _ _ _
  have u0 : w1.cell? ⟨w.heap.size, 0, none⟩ = some (.slice p1 D.n c1) := cell_of b1 rfl
  have u1 : w1.cell? ⟨w.heap.size, 1, none⟩ = some (.slice p2 D.m c2) := cell_of b1 rfl
  have HI := sp_dok w1 (ha.keep k1) hd
  have HK : Hid (Kb 0 w w1) := k1
  have HW1 : Hid (w1 = w.alloc (.cells #[.slice p1 D.n c1, .slice p2 D.m c2] 40)) := hw1
  by_cases hok : Dok D
  · rw [dc_t hok] at HI
    have hbb : b < 0 ∨ (¬ b < 0 ∧ b ≥ 258) := by
      rcases Int.lt_or_le b 0 with h | h
      · exact .inl h
      · refine .inr ⟨by omega, ?_⟩
        rcases Int.lt_or_le b 258 with h' | h'
        · exact absurd ⟨hok, h, h'⟩ hno
        · exact h'
    clear hw1 k1 b1 ha hd hno hok
    rcases hbb with hb | ⟨hb0, hb⟩
    all_goals
      go_enter Try.func36, Try.ntmps36
      go_upto_region 1 with fail
      rw [← (show w1 = _ from HW1)]
      clear HW1
      go_wp2_with fail
      refine HI.mono ?_
      rintro e w2 ⟨rfl, k2⟩
      have HF : Hid (Kb 0 w w2) := (show Kb 0 w w1 from HK).trans k2
      clear HI u0 u1 HK k2
      go_wp2_with fail
      go_ret
      exact ⟨rfl, HF⟩
  · rw [dc_f hok] at HI
    clear hw1 k1 b1 ha hd hno hok
    go_enter Try.func36, Try.ntmps36
    go_upto_region 1 with fail
    rw [← (show w1 = _ from HW1)]
    clear HW1
    go_wp2_with fail
    refine HI.mono ?_
    rintro e w2 ⟨rfl, k2⟩
    have HF : Hid (Kb 0 w w2) := (show Kb 0 w w1 from HK).trans k2
    clear HI u0 u1 HK k2
    go_wp2_with fail
    go_ret
    exact ⟨rfl, HF⟩
end Go.Proofs.Ytbbjbojjglhgmaa.Fo
