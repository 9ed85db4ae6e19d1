import Derived.Test.YtaggciimacanbaaMDdf
import Derived.Test.YtaggciimacanbaaMDde
import Derived.Test.YtaggciimacanbaaMDai
namespace Go.Proofs.Ytaggciimacanbaa.Fo
open Go.ChangeShapes Go.WideShapes Go.ChangeAt Go.RowKit
set_option linter.unusedVariables false
set_option maxRecDepth 100000
set_option linter.unusedSimpArgs false
set_option maxHeartbeats 8000000 in
theorem sp_l53read {v1 v2 : Value} {m : Nat} {B Q : Nat → Ed} (bn : Nat) (w : World) (ha : RowD 0 w v1 v2 ⟨258, B, m, Q⟩) (hok : Dok ⟨258, B, m, Q⟩) (hb : bn < 258) :
    Calls Try.prog 90 #[.agg #[v1, v2], .int .i64 (bn : Int)] w fun e w' => ∃ v g, e = .returned v ∧ OwnR w' v g 64 (ub (rdl (fun i => (B i).A) Q bn m)) ∧ (w.heap.size ≤ g ∧ g < w'.heap.size) ∧ Kb 0 w w' := by
  have hmm : m ≤ 200 := hok.2.1
  have hB64 : ∀ i, i < 258 → (B i).c = 64 := hok.2.2.1
  have hQ64 : ∀ i, i < m → Wok (Q i).b (Q i).c := hok.2.2.2
  obtain ⟨⟨p1, c1, rfl, ha1⟩, ⟨p2, c2, rfl, ha2⟩⟩ := id ha
  dsimp only at ha1 ha2
  obtain ⟨w1, hw1⟩ : ∃ w1, w1 = w.alloc (.cells #[.slice p1 258 c1, .slice p2 m c2] 30) := ⟨_, rfl⟩
  have k1 : Kb 0 w w1 := by rw [hw1]; exact kb_alloc _ _ _
  have b1 : w1.heap[w.heap.size]? = some (.cells #[.slice p1 258 c1, .slice p2 m c2] 30 (0, 0)) := by rw [hw1]; exact alloc_new _ _ _
  have u0 : w1.cell? ⟨w.heap.size, 0, none⟩ = some (.slice p1 258 c1) := cell_of b1 rfl
  have u1 : w1.cell? ⟨w.heap.size, 1, none⟩ = some (.slice p2 m c2) := cell_of b1 rfl
  have HA1 : Hid (∃ a : Addr, p1 = some a ∧ 258 ≤ c1 ∧ ∀ i, i < 258 → ElC 1 0 w1 (a.add (i * 1)) (B i) ∧ (B i).c = 64) := (by obtain ⟨a, e1, e2, _, e3⟩ := ha1 (by omega); exact ⟨a, e1, e2, fun i hi => ⟨(e3 i hi).keep (.inl rfl) (Nat.zero_le _) k1, hB64 i hi⟩⟩ : ∃ a : Addr, p1 = some a ∧ 258 ≤ c1 ∧ ∀ i, i < 258 → ElC 1 0 w1 (a.add (i * 1)) (B i) ∧ (B i).c = 64)
  have HA2 : Hid (0 < m → ∃ a : Addr, p2 = some a ∧ m ≤ c2 ∧ ∀ i, i < m → ElC 2 0 w1 (a.add (i * 2)) (Q i) ∧ Wok (Q i).b (Q i).c) := (fun q => by obtain ⟨a, e1, e2, _, e3⟩ := ha2 q; exact ⟨a, e1, e2, fun i hi => ⟨(e3 i hi).keep (.inr (.inl rfl)) (Nat.zero_le _) k1, hQ64 i hi⟩⟩ : 0 < m → _)
  have HCP : Hid (∀ (va : Value) (A : Nat → Int), RowV w1 va 64 (ub A) → Calls Try.prog 45 #[va] w1 fun e w' => ∃ v g, e = .returned v ∧ OwnR w' v g 64 (ub A) ∧ (w.heap.size ≤ g ∧ g < w'.heap.size) ∧ Kb 0 w w') := (fun va A h => (sp_copy w1 h (by omega)).mono (fun e w' ⟨v, g, e1, o1, l1, k2⟩ => ⟨v, g, e1, o1, ⟨Nat.le_trans k1.size (l1 (by omega)).1, (l1 (by omega)).2⟩, k1.trans k2⟩) : ∀ (va : Value) (A : Nat → Int), _)
  have HW1 : Hid (w1 = w.alloc (.cells #[.slice p1 258 c1, .slice p2 m c2] 30)) := hw1
  obtain ⟨RR, hRR⟩ : ∃ RR, RR = rdl (fun i => (B i).A) Q bn m := ⟨_, rfl⟩
  rw [← hRR]
  have HR : Hid (RR = rdl (fun i => (B i).A) Q bn m) := hRR
  have hbI : (bn : Int) < 258 := by omega
  clear hw1 k1 b1 ha hok hB64 hQ64 ha1 ha2 hRR
  go_enter Try.func90, Try.ntmps90
  go_upto_region 1 with fail
  rw [← (show w1 = _ from HW1)]
  clear HW1
  go_wp2_with fail
  go_loopw [5] (fun s5 wr => ∃ k : Nat, s5 = .int .i64 ((k : Int) - 1) ∧ k ≤ m ∧ wr = w1 ∧ Hid (RR = rdl (fun i => (B i).A) Q bn k)) (fun s5 _ => (intOf s5 + 1).toNat)
  case atStart => exact ⟨m, rfl, Nat.le_refl _, rfl, HR⟩
  case round =>
    clear HR
    obtain ⟨k, rfl, hkl, rfl, HX⟩ := hrel
    have hX := (show RR = rdl (fun i => (B i).A) Q bn k from HX)
    clear HX
    cases k with
    | zero =>
      rw [show (((0 : Nat) : Int) - 1) = (-1 : Int) from rfl]
      obtain ⟨a, rfl, hca, hra⟩ := (show ∃ a : Addr, _ from HA1)
      obtain ⟨⟨vc, x0, xt, hvc⟩, h64⟩ := hra bn hb
      rw [h64] at hvc
      obtain ⟨q0, r0, rfl, -⟩ := id hvc
      have d0 : wr.cell? (a.add bn) = some (.slice q0 64 r0) := by have := x0; rw [Nat.mul_one] at this; exact this
      have HC := (show ∀ (va : Value) (A : Nat → Int), _ from HCP) _ _ hvc.row
      rw [rdl] at hX
      rw [← hX] at HC
      clear hX hra x0 xt h64 HA2 HCP hvc
      go_wp2_with fail
      refine HC.mono ?_
      rintro e w3 ⟨v, g, rfl, o3⟩
      have HO : Hid (OwnR w3 v g 64 (ub RR) ∧ (w.heap.size ≤ g ∧ g < w3.heap.size) ∧ Kb 0 w w3) := o3
      obtain ⟨p3, c3, rfl, -⟩ := id o3.1.sl
      clear HC o3 d0 u0 u1
      go_wp2_with fail
      go_ret
      exact ⟨_, g, rfl, HO⟩
    | succ j =>
      rw [show (((j + 1 : Nat) : Int) - 1) = (j : Int) by omega]
      have hj : j < m := by omega
      have hjI : (j : Int) < (m : Int) := by omega
      obtain ⟨a, rfl, hca, hra⟩ := (show 0 < m → _ from HA2) (by omega)
      obtain ⟨⟨vc, x0, xt, hvc⟩, _, _, h64⟩ := hra j hj
      rw [h64] at hvc
      obtain ⟨q0, r0, rfl, -⟩ := id hvc
      have d0 : wr.cell? (a.add (j * 2)) = some (.int .i64 (Q j).b) := x0
      have d1 : wr.cell? ⟨(a.add (j * 2)).block, (a.add (j * 2)).off + 1, none⟩ = some (.slice q0 64 r0) := xt 1 (by omega) (by omega)
      have HC := (show ∀ (va : Value) (A : Nat → Int), _ from HCP) _ _ hvc.row
      rw [rdl] at hX
      obtain ⟨fb, hfb⟩ : ∃ fb, fb = (Q j).b := ⟨_, rfl⟩
      rw [← hfb] at d0 hX
      clear hfb hvc x0 xt h64
      by_cases e : fb = (bn : Int)
      · rw [if_pos e] at hX
        rw [← hX] at HC
        subst e
        clear hX hra HCP
        go_wp2_with fail
        refine HC.mono ?_
        rintro e w3 ⟨v, g, rfl, o3⟩
        have HO : Hid (OwnR w3 v g 64 (ub RR) ∧ (w.heap.size ≤ g ∧ g < w3.heap.size) ∧ Kb 0 w w3) := o3
        obtain ⟨p3, c3, rfl, -⟩ := id o3.1.sl
        clear HC o3 d0 d1 u0 u1
        go_wp2_with fail
        go_ret
        exact ⟨_, g, rfl, HO⟩
      · rw [if_neg e] at hX
        have HX : Hid (RR = rdl (fun i => (B i).A) Q bn j) := hX
        clear hX hra HCP HC
        go_wp2_with fail
        go_roundw
        case rel => exact ⟨j, rfl, by omega, trivial, HX⟩
        case measure => simp [intOf] <;> omega
end Go.Proofs.Ytaggciimacanbaa.Fo
