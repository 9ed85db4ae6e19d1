import Derived.Test.YtaoagjajjeddcaaSli
namespace Go.Proofs.Ytaoagjajjeddcaa.Fo
open Go.ChangeShapes Go.WideShapes Go.ChangeAt Go.RowKit
set_option linter.unusedVariables false
set_option maxRecDepth 100000

theorem qsm_mono (F : Nat → Ev) {n : Nat} : ∀ {i : Nat}, i ≤ n → qsm F i ≤ qsm F n := by
  induction n with
  | zero => intro i hi; obtain rfl : i = 0 := by omega
            exact Nat.le_refl _
  | succ n ih =>
    intro i hi
    by_cases e : i = n + 1
    · subst e; exact Nat.le_refl _
    · have := ih (i := i) (by omega)
      show qsm F i ≤ qsm F n + (F n).q
      omega
set_option maxHeartbeats 32000000 in
theorem mark_evs {L H : Nat} {v : Value} {n : Nat} {F : Nat → Ev} {g : Nat} {V : Nat → Value} {G : Nat → Nat} (w : World) (h : OwX L H w v n F g V G) (hH : H ≤ w.heap.size) (hn : (n : Int) + (qsm F n : Int) ≤ 1048576) :
    Calls Try.prog 21 #[v, .int .i64 1] w fun e w' => ∃ r : Int, e = .returned (.int .i64 r) ∧ 0 ≤ r ∧ Kq (fun q => L ≤ q ∧ q < H) w w' := by
  obtain ⟨cv, rfl, hcv⟩ := h.sl
  have HM0 : Hid (MX L H w n F g V G 0 w) := MX.start h hH
  have HQ : Hid (∀ i, i ≤ n → (1 : Int) + 9 * (i : Int) + (qsm F i : Int) ≤ 11000000) := (fun i hi => by have := qsm_mono F hi; omega : ∀ i, _)
  have HQ2 : Hid (∀ i, i < n → (F i).q ≤ 1048576) := (fun i hi => by have := q_le F n i hi; omega : ∀ i, _)
  have hnI : (n : Int) ≤ 1048576 := by omega
  clear h hH hn
  go_enter Try.func21, Try.ntmps21
  go_wp2_with fail
  go_loopw [1, 5] (fun s1 s5 wr => ∃ (i : Nat) (k : Int), s1 = .int .i64 k ∧ s5 = .int .i64 (i : Int) ∧ i ≤ n ∧ 1 ≤ k ∧ k ≤ 11000000 ∧ Hid (k = 1 + 9 * (i : Int) + (qsm F i : Int) ∧ MX L H w n F g V G i wr)) (fun _ s5 _ => n - (intOf s5).toNat)
  case atStart => exact ⟨0, 1, rfl, rfl, Nat.zero_le _, by omega, by omega, (⟨by show (1 : Int) = 1 + 9 * ((0 : Nat) : Int) + ((0 : Nat) : Int); omega, HM0⟩ : _ ∧ _)⟩
  case round =>
    clear HM0
    obtain ⟨i, k, rfl, rfl, hin, hk1, hk2, HX⟩ := hrel
    rcases Nat.lt_or_ge i n with hi | hi
    · have hiI : (i : Int) < (n : Int) := by omega
      have HMwr : Hid (MX L H w n F g V G i wr) := (show _ ∧ _ from HX).2
      have HKE : Hid (k = 1 + 9 * (i : Int) + (qsm F i : Int)) := (show _ ∧ _ from HX).1
      clear HX hin
      obtain ⟨u0, hu0⟩ := (show MX L H w n F g V G i wr from HMwr).ex i (Nat.le_refl _) hi 0 (by omega)
      have h0 : wr.cell? ⟨g, i * 10, none⟩ = some u0 := hu0
      have f0 : wr.frozen? ⟨g, i * 10, none⟩ = false := (show MX L H w n F g V G i wr from HMwr).fz _
      clear hu0
      go_upto_region 6 with fail
      obtain ⟨X1, hX1⟩ : ∃ X, X = wr.setCell ⟨g, i * 10, none⟩ (.int .i64 (k)) := ⟨_, rfl⟩
      have HMX1 : Hid (MX L H w n F g V G i X1) := (by rw [hX1]; exact (show MX L H w n F g V G i wr from HMwr).set hi 0 (by omega) _ : MX L H w n F g V G i X1)
      rw [← hX1]
      clear hX1 h0 f0 u0 HMwr
      obtain ⟨u1, hu1⟩ := (show MX L H w n F g V G i X1 from HMX1).ex i (Nat.le_refl _) hi 1 (by omega)
      have h1 : X1.cell? ⟨g, i * 10 + 1, none⟩ = some u1 := hu1
      have f1 : X1.frozen? ⟨g, i * 10 + 1, none⟩ = false := (show MX L H w n F g V G i X1 from HMX1).fz _
      clear hu1
      go_upto_region 8 with fail
      obtain ⟨X2, hX2⟩ : ∃ X, X = X1.setCell ⟨g, i * 10 + 1, none⟩ (.int .i64 (k + 1)) := ⟨_, rfl⟩
      have HMX2 : Hid (MX L H w n F g V G i X2) := (by rw [hX2]; exact (show MX L H w n F g V G i X1 from HMX1).set hi 1 (by omega) _ : MX L H w n F g V G i X2)
      rw [← hX2]
      clear hX2 h1 f1 u1 HMX1
      obtain ⟨u2, hu2⟩ := (show MX L H w n F g V G i X2 from HMX2).ex i (Nat.le_refl _) hi 2 (by omega)
      have h2 : X2.cell? ⟨g, i * 10 + 2, none⟩ = some u2 := hu2
      have f2 : X2.frozen? ⟨g, i * 10 + 2, none⟩ = false := (show MX L H w n F g V G i X2 from HMX2).fz _
      clear hu2
      go_upto_region 10 with fail
      obtain ⟨X3, hX3⟩ : ∃ X, X = X2.setCell ⟨g, i * 10 + 2, none⟩ (.int .i64 (k + 1 + 1)) := ⟨_, rfl⟩
      have HMX3 : Hid (MX L H w n F g V G i X3) := (by rw [hX3]; exact (show MX L H w n F g V G i X2 from HMX2).set hi 2 (by omega) _ : MX L H w n F g V G i X3)
      rw [← hX3]
      clear hX3 h2 f2 u2 HMX2
      go_wp2_with fail
      refine (mark_textI (k := k + 1 + 1 + 1) (by omega) (by omega) X3).mono ?_
      rintro e Y3 ⟨⟨tx3, rfl⟩, bY3⟩
      have HMY3 : Hid (MX L H w n F g V G i Y3) := (show MX L H w n F g V G i X3 from HMX3).below bY3
      clear bY3 HMX3
      obtain ⟨u3, hu3⟩ := (show MX L H w n F g V G i Y3 from HMY3).ex i (Nat.le_refl _) hi 3 (by omega)
      have h3 : Y3.cell? ⟨g, i * 10 + 3, none⟩ = some u3 := hu3
      have f3 : Y3.frozen? ⟨g, i * 10 + 3, none⟩ = false := (show MX L H w n F g V G i Y3 from HMY3).fz _
      clear hu3
      go_upto_region 12 with fail
      obtain ⟨X4, hX4⟩ : ∃ X, X = Y3.setCell ⟨g, i * 10 + 3, none⟩ (.string tx3) := ⟨_, rfl⟩
      have HMX4 : Hid (MX L H w n F g V G i X4) := (by rw [hX4]; exact (show MX L H w n F g V G i Y3 from HMY3).set hi 3 (by omega) _ : MX L H w n F g V G i X4)
      rw [← hX4]
      clear hX4 h3 f3 u3 HMY3
      go_wp2_with fail
      refine (mark_textI (k := k + 1 + 1 + 1 + 1) (by omega) (by omega) X4).mono ?_
      rintro e Y4 ⟨⟨tx4, rfl⟩, bY4⟩
      have HMY4 : Hid (MX L H w n F g V G i Y4) := (show MX L H w n F g V G i X4 from HMX4).below bY4
      clear bY4 HMX4
      obtain ⟨u4, hu4⟩ := (show MX L H w n F g V G i Y4 from HMY4).ex i (Nat.le_refl _) hi 4 (by omega)
      have h4 : Y4.cell? ⟨g, i * 10 + 4, none⟩ = some u4 := hu4
      have f4 : Y4.frozen? ⟨g, i * 10 + 4, none⟩ = false := (show MX L H w n F g V G i Y4 from HMY4).fz _
      clear hu4
      go_upto_region 14 with fail
      obtain ⟨X5, hX5⟩ : ∃ X, X = Y4.setCell ⟨g, i * 10 + 4, none⟩ (.string tx4) := ⟨_, rfl⟩
      have HMX5 : Hid (MX L H w n F g V G i X5) := (by rw [hX5]; exact (show MX L H w n F g V G i Y4 from HMY4).set hi 4 (by omega) _ : MX L H w n F g V G i X5)
      rw [← hX5]
      clear hX5 h4 f4 u4 HMY4
      obtain ⟨u5, hu5⟩ := (show MX L H w n F g V G i X5 from HMX5).ex i (Nat.le_refl _) hi 5 (by omega)
      have h5 : X5.cell? ⟨g, i * 10 + 5, none⟩ = some u5 := hu5
      have f5 : X5.frozen? ⟨g, i * 10 + 5, none⟩ = false := (show MX L H w n F g V G i X5 from HMX5).fz _
      clear hu5
      go_upto_region 16 with fail
      obtain ⟨X6, hX6⟩ : ∃ X, X = X5.setCell ⟨g, i * 10 + 5, none⟩ (.int .i64 (k + 1 + 1 + 1 + 1 + 1)) := ⟨_, rfl⟩
      have HMX6 : Hid (MX L H w n F g V G i X6) := (by rw [hX6]; exact (show MX L H w n F g V G i X5 from HMX5).set hi 5 (by omega) _ : MX L H w n F g V G i X6)
      rw [← hX6]
      clear hX6 h5 f5 u5 HMX5
      obtain ⟨u6, hu6⟩ := (show MX L H w n F g V G i X6 from HMX6).ex i (Nat.le_refl _) hi 6 (by omega)
      have h6 : X6.cell? ⟨g, i * 10 + 6, none⟩ = some u6 := hu6
      have f6 : X6.frozen? ⟨g, i * 10 + 6, none⟩ = false := (show MX L H w n F g V G i X6 from HMX6).fz _
      clear hu6
      go_upto_region 18 with fail
      obtain ⟨X7, hX7⟩ : ∃ X, X = X6.setCell ⟨g, i * 10 + 6, none⟩ (.int .i64 (k + 1 + 1 + 1 + 1 + 1 + 1)) := ⟨_, rfl⟩
      have HMX7 : Hid (MX L H w n F g V G i X7) := (by rw [hX7]; exact (show MX L H w n F g V G i X6 from HMX6).set hi 6 (by omega) _ : MX L H w n F g V G i X7)
      rw [← hX7]
      clear hX7 h6 f6 u6 HMX6
      obtain ⟨u7, hu7⟩ := (show MX L H w n F g V G i X7 from HMX7).ex i (Nat.le_refl _) hi 7 (by omega)
      have h7 : X7.cell? ⟨g, i * 10 + 7, none⟩ = some u7 := hu7
      have f7 : X7.frozen? ⟨g, i * 10 + 7, none⟩ = false := (show MX L H w n F g V G i X7 from HMX7).fz _
      clear hu7
      go_upto_region 20 with fail
      obtain ⟨X8, hX8⟩ : ∃ X, X = X7.setCell ⟨g, i * 10 + 7, none⟩ (.int .i64 (k + 1 + 1 + 1 + 1 + 1 + 1 + 1)) := ⟨_, rfl⟩
      have HMX8 : Hid (MX L H w n F g V G i X8) := (by rw [hX8]; exact (show MX L H w n F g V G i X7 from HMX7).set hi 7 (by omega) _ : MX L H w n F g V G i X8)
      rw [← hX8]
      clear hX8 h7 f7 u7 HMX7
      go_wp2_with fail
      refine (mark_textI (k := k + 1 + 1 + 1 + 1 + 1 + 1 + 1 + 1) (by omega) (by omega) X8).mono ?_
      rintro e Y8 ⟨⟨tx8, rfl⟩, bY8⟩
      have HMY8 : Hid (MX L H w n F g V G i Y8) := (show MX L H w n F g V G i X8 from HMX8).below bY8
      clear bY8 HMX8
      obtain ⟨u8, hu8⟩ := (show MX L H w n F g V G i Y8 from HMY8).ex i (Nat.le_refl _) hi 8 (by omega)
      have h8 : Y8.cell? ⟨g, i * 10 + 8, none⟩ = some u8 := hu8
      have f8 : Y8.frozen? ⟨g, i * 10 + 8, none⟩ = false := (show MX L H w n F g V G i Y8 from HMY8).fz _
      clear hu8
      go_upto_region 22 with fail
      obtain ⟨X9, hX9⟩ : ∃ X, X = Y8.setCell ⟨g, i * 10 + 8, none⟩ (.string tx8) := ⟨_, rfl⟩
      have HMX9 : Hid (MX L H w n F g V G i X9) := (by rw [hX9]; exact (show MX L H w n F g V G i Y8 from HMY8).set hi 8 (by omega) _ : MX L H w n F g V G i X9)
      rw [← hX9]
      clear hX9 h8 f8 u8 HMY8
      have hMX := (show MX L H w n F g V G i X9 from HMX9)
      have h9 : X9.cell? ⟨g, i * 10 + 9, none⟩ = some (V i) := hMX.la i (Nat.le_refl _) hi
      have ow := hMX.ow i (Nat.le_refl _) hi
      obtain ⟨pq, cq, eV, -⟩ := id ow.sl
      rw [eV] at h9 ow
      have HB := mark_bools X9 (k + 1 + 1 + 1 + 1 + 1 + 1 + 1 + 1 + 1) ow ((show ∀ i, i < n → _ from HQ2) i hi) (by omega) (by omega)
      have HN : Hid (∀ W', Kq (fun q => 0 < (F i).q ∧ q = G i) X9 W' → MX L H w n F g V G (i + 1) W') := (fun W' kq => hMX.next hi kq : ∀ W', _)
      have HKN : Hid (k + 1 + 1 + 1 + 1 + 1 + 1 + 1 + 1 + 1 + ((F i).q : Int) = 1 + 9 * ((i + 1 : Nat) : Int) + (qsm F (i + 1) : Int)) := (by
        have e : qsm F (i + 1) = qsm F i + (F i).q := rfl
        rw [e]
        have := (show k = 1 + 9 * (i : Int) + (qsm F i : Int) from HKE)
        omega : k + 1 + 1 + 1 + 1 + 1 + 1 + 1 + 1 + 1 + ((F i).q : Int) = 1 + 9 * ((i + 1 : Nat) : Int) + (qsm F (i + 1) : Int))
      have HQN := (show ∀ i, i ≤ n → _ from HQ) (i + 1) (by omega)
      rw [← (show k + 1 + 1 + 1 + 1 + 1 + 1 + 1 + 1 + 1 + ((F i).q : Int) = _ from HKN)] at HQN
      obtain ⟨K2, hK2⟩ : ∃ K2 : Int, K2 = k + 1 + 1 + 1 + 1 + 1 + 1 + 1 + 1 + 1 + ((F i).q : Int) := ⟨_, rfl⟩
      rw [← hK2] at HB HQN HKN
      have hK21 : 1 ≤ K2 := by omega
      clear hMX ow eV HMX9 hK2 HKE
      go_wp2_with fail
      refine HB.mono ?_
      rintro e W2 ⟨rfl, kq, -⟩
      have HMN : Hid (MX L H w n F g V G (i + 1) W2) := (show ∀ W', _ from HN) W2 kq
      clear HB HN kq h9
      go_wp2_with fail
      go_roundw
      case rel => exact ⟨i + 1, K2, rfl, by go_num, by omega, hK21, HQN, (⟨HKN, HMN⟩ : _ ∧ _)⟩
      case measure => simp [intOf]; omega
    · obtain rfl : i = n := by omega
      go_wp2_with fail
      go_ret
      exact ⟨k, rfl, by omega, (show _ ∧ _ from HX).2.kq⟩
end Go.Proofs.Ytaoagjajjeddcaa.Fo
