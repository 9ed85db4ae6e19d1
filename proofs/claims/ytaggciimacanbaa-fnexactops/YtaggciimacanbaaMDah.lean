import Derived.Test.YtaggciimacanbaaMDaf
import Derived.Test.YtaggciimacanbaaMGde
namespace Go.Proofs.Ytaggciimacanbaa.Fo
open Go.ChangeShapes Go.WideShapes Go.ChangeAt Go.RowKit
set_option linter.unusedVariables false
set_option maxRecDepth 100000
/-- a write that can be taken -/
def Wok (b : Int) (c : Nat) : Prop := 0 ≤ b ∧ b < 258 ∧ c = 64
/-- a disk that is as DiskOk wants it -/
def Dok (D : Dd) : Prop := D.n = 258 ∧ D.m ≤ 200 ∧ (∀ i, i < D.n → (D.B i).c = 64) ∧ ∀ i, i < D.m → Wok (D.Q i).b (D.Q i).c
set_option maxHeartbeats 4000000 in
theorem im_isblock (b : Int) (w : World) : Calls Try.prog 111 #[.int .i64 b] w fun e w' => e = .returned (.bool (dc (0 ≤ b ∧ b < 258))) ∧ w' = w := by
  by_cases h : 0 ≤ b
  · by_cases h2 : b < 258
    · rw [dc_t ⟨h, h2⟩]
      go_enter Try.func111, Try.ntmps111
      go_wp2_with fail
      go_ret
      exact ⟨rfl, rfl⟩
    · rw [dc_f (fun q => h2 q.2)]
      go_enter Try.func111, Try.ntmps111
      go_wp2_with fail
      go_ret
      exact ⟨rfl, rfl⟩
  · rw [dc_f (fun q => h q.1)]
    go_enter Try.func111, Try.ntmps111
    go_wp2_with fail
    go_ret
    exact ⟨rfl, rfl⟩
set_option maxHeartbeats 4000000 in
theorem im_iswrite (b : Int) {p : Option Addr} {c q : Nat} (hc : (c : Int) ≤ 1048576) (w : World) : Calls Try.prog 102 #[.int .i64 b, .slice p c q] w fun e w' => e = .returned (.bool (dc (Wok b c))) ∧ w' = w := by
  have HB := im_isblock b w
  by_cases h : 0 ≤ b ∧ b < 258
  · rw [dc_t h] at HB
    by_cases h2 : c = 64
    · rw [dc_t (show Wok b c from ⟨h.1, h.2, h2⟩)]
      have e : ((c : Int) == 64) = true := by simp; omega
      clear h h2
      go_enter Try.func102, Try.ntmps102
      go_wp2_with fail
      refine HB.mono ?_
      rintro e w1 ⟨rfl, hw1⟩
      rw [hw1]
      clear HB hw1
      go_wp2_with fail
      go_ret
      exact ⟨rfl, rfl⟩
    · rw [dc_f (fun q => h2 q.2.2)]
      have e : ((c : Int) == 64) = false := by simp; omega
      clear h h2
      go_enter Try.func102, Try.ntmps102
      go_wp2_with fail
      refine HB.mono ?_
      rintro e w1 ⟨rfl, hw1⟩
      rw [hw1]
      clear HB hw1
      go_wp2_with fail
      go_ret
      exact ⟨rfl, rfl⟩
  · rw [dc_f h] at HB
    rw [dc_f (fun q => h ⟨q.1, q.2.1⟩)]
    clear h
    go_enter Try.func102, Try.ntmps102
    go_wp2_with fail
    refine HB.mono ?_
    rintro e w1 ⟨rfl, hw1⟩
    rw [hw1]
    clear HB hw1
    go_wp2_with fail
    go_ret
    exact ⟨rfl, rfl⟩
set_option maxHeartbeats 16000000 in
theorem im_dok {v1 v2 : Value} {D : Dd} (w : World) (ha : RowD 0 w v1 v2 D) (hd : BdD D) :
    Calls Try.prog 66 #[.agg #[v1, v2]] w fun e w' => e = .returned (.bool (dc (Dok D))) ∧ Kb 0 w w' := by
  obtain ⟨⟨p1, c1, rfl, ha1⟩, ⟨p2, c2, rfl, ha2⟩⟩ := ha
  obtain ⟨R, hR⟩ : ∃ R, R = dc (Dok D) := ⟨_, rfl⟩
  rw [← hR]
  have HR : Hid (R = dc (Dok D)) := hR
  obtain ⟨w1, hw1⟩ : ∃ w1, w1 = w.alloc (.cells #[.slice p1 D.n c1, .slice p2 D.m c2] 30) := ⟨_, rfl⟩
  have k1 : Kb 0 w w1 := by rw [hw1]; exact kb_alloc _ _ _
  have b1 : w1.heap[w.heap.size]? = some (.cells #[.slice p1 D.n c1, .slice p2 D.m c2] 30 (0, 0)) := by rw [hw1]; exact alloc_new _ _ _
  have u0 : w1.cell? ⟨w.heap.size, 0, none⟩ = some (.slice p1 D.n c1) := cell_of b1 rfl
  have u1 : w1.cell? ⟨w.heap.size, 1, none⟩ = some (.slice p2 D.m c2) := cell_of b1 rfl
  have hnI : (D.n : Int) ≤ 1048576 := by have := hd.hn; omega
  have hmI : (D.m : Int) ≤ 1048576 := by have := hd.hm; omega
  have HA : Hid ((0 < D.n → ∃ a : Addr, p1 = some a ∧ D.n ≤ c1 ∧ 0 ≤ a.block ∧ ∀ i, i < D.n → ElC 1 0 w (a.add (i * 1)) (D.B i)) ∧ (0 < D.m → ∃ a : Addr, p2 = some a ∧ D.m ≤ c2 ∧ 0 ≤ a.block ∧ ∀ i, i < D.m → ElC 2 0 w (a.add (i * 2)) (D.Q i)) ∧ Kb 0 w w1 ∧ w1.heap[w.heap.size]? = some (.cells #[.slice p1 D.n c1, .slice p2 D.m c2] 30 (0, 0)) ∧ BdD D) := (⟨ha1, ha2, k1, b1, hd⟩ : _ ∧ _)
  have HK : Hid (Kb 0 w w1) := k1
  have HW : Hid (w1 = _) := hw1
  clear hR hw1 k1 b1 ha1 ha2 hd
  go_enter Try.func66, Try.ntmps66
  go_upto_region 1 with fail
  rw [← (show w1 = _ from HW)]
  clear HW
  by_cases hn : D.n = 258
  rotate_left
  · have e := (show R = _ from HR).trans (dc_f (fun q => hn q.1))
    have n1 : ((D.n : Int) != 258) = true := by simp; omega
    clear HA HR hn
    subst e
    go_wp2_with fail
    go_ret
    exact ⟨rfl, HK⟩
  have n1 : ((D.n : Int) != 258) = false := by simp; omega
  by_cases hm : D.m ≤ 200
  rotate_left
  · have e := (show R = _ from HR).trans (dc_f (fun q => hm q.2.1))
    have n2 : (200 : Int) < (D.m : Int) := by omega
    clear HA HR hn hm hmI
    subst e
    go_wp2_with fail
    go_ret
    exact ⟨rfl, HK⟩
  have n2 : ¬ (200 : Int) < (D.m : Int) := by omega
  have HN : Hid (D.n = 258 ∧ D.m ≤ 200) := (⟨hn, hm⟩ : _ ∧ _)
  clear hn hm HK
  go_wp2_with fail
  clear n1 n2
  go_loopw [20] (fun s wr => ∃ i : Nat, s = .int .i64 (i : Int) ∧ i ≤ D.n ∧ Hid (Kb 0 w1 wr ∧ ∀ t, t < i → (D.B t).c = 64)) (fun s _ => D.n - (intOf s).toNat)
  case atStart => exact ⟨0, rfl, Nat.zero_le _, (⟨Kb.refl _ _, fun t ht => by omega⟩ : _ ∧ _)⟩
  case round =>
    obtain ⟨i, rfl, hin, HI⟩ := hrel
    obtain ⟨kwr, hall⟩ := (show _ ∧ _ from HI)
    obtain ⟨ha1, ha2, k1, b1, hd⟩ := (show _ ∧ _ ∧ _ ∧ _ ∧ _ from HA)
    rcases Nat.lt_or_ge i D.n with hi | hi
    · have hiI : (i : Int) < (D.n : Int) := by omega
      obtain ⟨a, rfl, hca, -, hra⟩ := ha1 (by omega)
      obtain ⟨v, h0, -, hr⟩ := (hra i hi).keep (.inl rfl) (Nat.zero_le _) (k1.trans kwr)
      obtain ⟨q0, r0, rfl, -⟩ := id hr
      have d0 : wr.cell? (a.add i) = some (.slice q0 (D.B i).c r0) := by have := h0; rw [Nat.mul_one] at this; exact this
      have hcc := hd.hB i hi
      by_cases q : (D.B i).c = 64
      · have HI2 : Hid (Kb 0 w1 wr ∧ ∀ t, t < i + 1 → (D.B t).c = 64) := (⟨kwr, fun t ht => by
          by_cases e : t = i
          · rw [e]; exact q
          · exact hall t (by omega)⟩ : _ ∧ _)
        obtain ⟨fc, hfc⟩ : ∃ fc, fc = (D.B i).c := ⟨_, rfl⟩
        rw [← hfc] at d0
        have n3 : ((fc : Int) != 64) = false := by simp; omega
        clear HI kwr hall ha1 ha2 k1 b1 hd hra h0 hr hcc q hfc
        go_wp2_with fail
        go_roundw
        case rel => exact ⟨i + 1, by go_num, by omega, HI2⟩
        case measure => simp [intOf]; omega
      · have e := (show R = _ from HR).trans (dc_f (fun z => q (z.2.2.1 i hi)))
        have HF : Hid (Kb 0 w wr) := k1.trans kwr
        obtain ⟨fc, hfc⟩ : ∃ fc, fc = (D.B i).c := ⟨_, rfl⟩
        rw [← hfc] at d0
        have n3 : ((fc : Int) != 64) = true := by simp; omega
        clear HI kwr hall ha1 ha2 k1 b1 hd hra h0 hr hcc q hfc HA HN HR
        subst e
        go_wp2_with fail
        go_ret
        exact ⟨rfl, HF⟩
    · obtain rfl : i = D.n := by omega
      have x1 : wr.cell? ⟨w.heap.size, 1, none⟩ = some (.slice p2 D.m c2) := kwr.cell (cell_of b1 rfl)
      have HL : Hid (Kb 0 w wr ∧ (∀ t, t < D.n → (D.B t).c = 64)) := (⟨k1.trans kwr, hall⟩ : _ ∧ _)
      have hI' : ¬ (D.n : Int) < (D.n : Int) := by omega
      clear HI kwr hall ha1 ha2 k1 b1 hd hi hin
      go_wp2_with fail
      obtain ⟨wo, hwo⟩ : ∃ wo, wo = wr := ⟨_, rfl⟩
      rw [← hwo] at HL x1 ⊢
      clear hwo wr
      go_loopw [31] (fun s wr => ∃ j : Nat, s = .int .i64 (j : Int) ∧ j ≤ D.m ∧ Hid (Kb 0 w wr ∧ ∀ t, t < j → Wok (D.Q t).b (D.Q t).c)) (fun s _ => D.m - (intOf s).toNat)
      case atStart => exact ⟨0, rfl, Nat.zero_le _, (⟨(show _ ∧ _ from HL).1, fun t ht => by omega⟩ : _ ∧ _)⟩
      case round =>
      obtain ⟨j, rfl, hjn, HI⟩ := hrel
      obtain ⟨kwr, hall⟩ := (show _ ∧ _ from HI)
      obtain ⟨ha1, ha2, k1, b1, hd⟩ := (show _ ∧ _ ∧ _ ∧ _ ∧ _ from HA)
      rcases Nat.lt_or_ge j D.m with hj | hj
      · have hjI : (j : Int) < (D.m : Int) := by omega
        obtain ⟨a, rfl, hca, -, hra⟩ := ha2 (by omega)
        obtain ⟨v, h0, ht, hr⟩ := (hra j hj).keep (.inr (.inl rfl)) (Nat.zero_le _) kwr
        obtain ⟨q0, r0, rfl, -⟩ := id hr
        have d0 : wr.cell? (a.add (j * 2)) = some (.int .i64 (D.Q j).b) := h0
        have d1 : wr.cell? ⟨(a.add (j * 2)).block, (a.add (j * 2)).off + 1, none⟩ = some (.slice q0 (D.Q j).c r0) := ht 1 (by omega) (by omega)
        have HS2 : Hid (Wok (D.Q j).b (D.Q j).c → ∀ t, t < j + 1 → Wok (D.Q t).b (D.Q t).c) := (fun hw t ht => by
          by_cases e : t = j
          · rw [e]; exact hw
          · exact hall t (by omega) : _ → _)
        have HWk : Hid (∀ h : Dok D, Wok (D.Q j).b (D.Q j).c) := (fun h => h.2.2.2 j hj : ∀ h : Dok D, _)
        obtain ⟨fc, hfce⟩ : ∃ fc, fc = (D.Q j).c := ⟨_, rfl⟩
        obtain ⟨fb, hfbe⟩ : ∃ fb, fb = (D.Q j).b := ⟨_, rfl⟩
        have hfc : (fc : Int) ≤ 1048576 := by have := hd.hQ j hj; omega
        rw [← hfce, ← hfbe] at HS2 HWk
        rw [← hfce] at d1
        rw [← hfbe] at d0
        have HKR : Hid (Kb 0 w wr) := kwr
        clear HI kwr hall ha1 ha2 k1 b1 hd hra h0 ht hr hfce hfbe
        go_upto_region 12 with fail
        generalize hw6 : World.alloc wr _ = w6
        have HK6 : Hid (Kb 0 w w6) := by rw [← hw6]; exact (show Kb 0 w wr from HKR).alloc _
        have b6 : w6.heap[wr.heap.size]? = some (.cells #[.int .i64 fb, .slice q0 fc r0] 71 (0, 0)) := by rw [← hw6]; exact alloc_new _ _ _
        have y0 : w6.cell? ⟨wr.heap.size, 0, none⟩ = some (.int .i64 fb) := cell_of b6 rfl
        have y1 : w6.cell? ⟨wr.heap.size, 1, none⟩ = some (.slice q0 fc r0) := cell_of b6 rfl
        clear hw6 b6 HKR d0 d1
        have HI := im_iswrite fb (p := q0) (q := r0) hfc w6
        by_cases q1 : Wok fb fc
        rotate_left
        · have e := (show R = _ from HR).trans (dc_f (fun q => q1 ((show ∀ h : Dok D, Wok fb fc from HWk) q)))
          rw [dc_f q1] at HI
          clear HWk HR HS2 hfc q1
          subst e
          go_wp2_with fail
          refine HI.mono ?_
          rintro e w7 ⟨rfl, hw7⟩
          rw [hw7]
          clear HI hw7
          go_wp2_with fail
          go_ret
          exact ⟨rfl, HK6⟩
        rw [dc_t q1] at HI
        have HS3 : Hid (∀ t, t < j + 1 → Wok (D.Q t).b (D.Q t).c) := (show _ → _ from HS2) q1
        clear HWk HS2 q1
        go_wp2_with fail
        refine HI.mono ?_
        rintro e w7 ⟨rfl, hw7⟩
        rw [hw7]
        clear HI hw7
        go_wp2_with fail
        go_roundw
        case rel => exact ⟨j + 1, by go_num, by omega, (⟨HK6, HS3⟩ : _ ∧ _)⟩
        case measure => simp [intOf]; omega
      · obtain rfl : j = D.m := by omega
        have e := (show R = _ from HR).trans (dc_t ⟨(show _ ∧ _ from HN).1, (show _ ∧ _ from HN).2, (show _ ∧ _ from HL).2, hall⟩)
        have HF : Hid (Kb 0 w wr) := kwr
        have hI' : ¬ (D.m : Int) < (D.m : Int) := by omega
        clear HI kwr hall ha1 ha2 k1 b1 hd hj hjn HA HN HR HL
        subst e
        go_wp2_with fail
        go_ret
        exact ⟨rfl, HF⟩
end Go.Proofs.Ytaggciimacanbaa.Fo
