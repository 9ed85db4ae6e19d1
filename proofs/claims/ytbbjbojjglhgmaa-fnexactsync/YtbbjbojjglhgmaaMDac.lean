import Derived.Deep.RegionHeldLaw
import Derived.Test.YtbbjbojjglhgmaaMDab
namespace Go.Proofs.Ytbbjbojjglhgmaa.Fo
open Go.ChangeShapes Go.WideShapes Go.ChangeAt Go.RowKit
set_option linter.unusedVariables false
set_option maxRecDepth 100000
set_option maxHeartbeats 8000000 in
theorem eq_row1 {va vb : Value} {n : Nat} {F : Nat → Ed} (w : World) (ha : RowE 1 0 w va n F) (hb : RowE 1 0 w vb n F) (hn : n ≤ 1048576) (hF : ∀ i, i < n → (F i).c ≤ 1048576) :
    Calls Try.prog 77 #[va, vb] w fun e w' => e = .returned (.bool true) ∧ Kb 0 w w' := by
  obtain ⟨pa, ca, rfl, ha2⟩ := ha
  obtain ⟨pb, cb, rfl, hb2⟩ := hb
  have HA : Hid ((0 < n → ∃ a : Addr, pa = some a ∧ n ≤ ca ∧ 0 ≤ a.block ∧ ∀ i, i < n → ElC 1 0 w (a.add (i * 1)) (F i)) ∧ (0 < n → ∃ a : Addr, pb = some a ∧ n ≤ cb ∧ 0 ≤ a.block ∧ ∀ i, i < n → ElC 1 0 w (a.add (i * 1)) (F i)) ∧ (∀ i, i < n → (F i).c ≤ 1048576)) := (⟨ha2, hb2, hF⟩ : _ ∧ _)
  have hnI : (n : Int) ≤ 1048576 := by omega
  clear ha2 hb2 hn hF
  go_enter Try.func77, Try.ntmps77
  go_wp2_with fail
  go_loopw [5] (fun s5 wr => ∃ i : Nat, s5 = .int .i64 (i : Int) ∧ i ≤ n ∧ Hid (Kb 0 w wr)) (fun s5 _ => n - (intOf s5).toNat)
  case atStart => exact ⟨0, rfl, Nat.zero_le _, Kb.refl _ _⟩
  case round =>
    obtain ⟨i, rfl, hin, HB⟩ := hrel
    rcases Nat.lt_or_ge i n with hi | hi
    · have hA := (show (0 < n → ∃ a : Addr, pa = some a ∧ n ≤ ca ∧ 0 ≤ a.block ∧ ∀ i, i < n → ElC 1 0 w (a.add (i * 1)) (F i)) ∧ (0 < n → ∃ a : Addr, pb = some a ∧ n ≤ cb ∧ 0 ≤ a.block ∧ ∀ i, i < n → ElC 1 0 w (a.add (i * 1)) (F i)) ∧ (∀ i, i < n → (F i).c ≤ 1048576) from HA)
      obtain ⟨qa, rfl, hca, -, hra⟩ := hA.1 (by omega)
      obtain ⟨qb, rfl, hcb, -, hrb⟩ := hA.2.1 (by omega)
      have hiI : (i : Int) < (n : Int) := by omega
      obtain ⟨vc, x0, xt, h1⟩ := (hra i hi).keep (.inl rfl) (Nat.zero_le _) (show Kb 0 w wr from HB)
      obtain ⟨uc, z0, zt, h2⟩ := (hrb i hi).keep (.inl rfl) (Nat.zero_le _) (show Kb 0 w wr from HB)
      have y1 := hA.2.2 i hi
      obtain ⟨p0, c0, rfl, -⟩ := id h1
      obtain ⟨p1, c1, rfl, -⟩ := id h2
      have heq0 : ∀ W', Kb 0 wr W' → Calls Try.prog 19 #[.slice p0 (F i).c c0, .slice p1 (F i).c c1] W' fun e w' => e = .returned (.bool true) ∧ Kb 0 W' w' := fun W' k => eq_bytsK W' (h1.keep k) (h2.keep k) y1
      have heq : ∀ W', W'.heap = wr.heap → W'.os = wr.os → W'.output = wr.output → Calls Try.prog 19 #[.slice p0 (F i).c c0, .slice p1 (F i).c c1] W' fun e w' => e = .returned (.bool true) ∧ Kb 0 wr w' := fun W' h0 h1 h2 => by
        have kk : Kb 0 wr W' := ⟨h1, h2, by rw [h0]; exact Nat.le_refl _, fun k _ _ => by rw [h0]⟩
        refine (heq0 W' kk).mono ?_
        rintro e w' ⟨rfl, k⟩
        exact ⟨rfl, kk.trans k⟩
      have a0 : wr.cell? (qa.add i) = some (.slice p0 (F i).c c0) := by have := x0; rw [Nat.mul_one] at this; exact this
      have b0 : wr.cell? (qb.add i) = some (.slice p1 (F i).c c1) := by have := z0; rw [Nat.mul_one] at this; exact this
      clear hra hrb hA HA h1 h2 y1 x0 xt z0 zt heq0
      generalize (F i).c = fc at *
      have HKEEP : Hid (∀ (W' : World), Kb 0 wr W' → W'.cell? (qa.add i) = some (.slice p0 fc c0) ∧ W'.cell? (qb.add i) = some (.slice p1 fc c1)) := by
        show ∀ (W' : World), _
        intro W' k
        exact ⟨k.cell a0, k.cell b0⟩
      have HEQ : Hid (∀ W', W'.heap = wr.heap → W'.os = wr.os → W'.output = wr.output → Calls Try.prog 19 #[.slice p0 fc c0, .slice p1 fc c1] W' fun e w' => e = .returned (.bool true) ∧ Kb 0 wr w') := heq
      clear hin heq
      go_wp2_with fail
      go_region_held_law (fun W' => W'.cell? (qa.add i) = some (.slice p0 fc c0) ∧ W'.cell? (qb.add i) = some (.slice p1 fc c1)) (first | exact ⟨a0, b0⟩ | exact (show ∀ (W' : World), _ from HKEEP) _ k5)
        ((go_at_call 19; refine ((show ∀ W', W'.heap = wr.heap → W'.os = wr.os → W'.output = wr.output → Calls Try.prog 19 #[.slice p0 fc c0, .slice p1 fc c1] W' fun e w' => e = .returned (.bool true) ∧ Kb 0 wr w' from HEQ) _ (by exact rfl) (by exact rfl) (by exact rfl)).mono ?_; rintro e w5 ⟨rfl, k5⟩))
      all_goals
        have HB5 : Hid (Kb 0 w w5) := (show Kb 0 w wr from HB).trans k5
        clear HB HKEEP HEQ k5 a0 b0
        go_wp2_with fail
        go_roundw
        case rel => exact ⟨i + 1, by go_num, by omega, HB5⟩
        case measure => simp [intOf]; omega
    · obtain rfl : i = n := by omega
      clear HA
      go_wp2_with fail
      go_ret
      exact ⟨rfl, HB⟩
set_option maxHeartbeats 8000000 in
theorem eq_el2 {f : Ed} {vc uc : Value} (w : World)
    (g0 : ∀ W', Kb 0 w W' → Calls Try.prog 19 #[vc, uc] W' fun e w' => e = .returned (.bool true) ∧ Kb 0 W' w') :
    Calls Try.prog 139 #[.agg #[.int .i64 f.b, vc], .agg #[.int .i64 f.b, uc]] w fun e w' => e = .returned (.bool true) ∧ Kb 0 w w' := by
  have G0 : Hid (∀ W', Kb 0 w W' → Calls Try.prog 19 #[vc, uc] W' fun e w' => e = .returned (.bool true) ∧ Kb 0 W' w') := g0
  clear g0
  generalize f.b = t at *
  have e1 : (t != t) = false := by simp
  obtain ⟨w2, hw2⟩ : ∃ w2, w2 = (w.alloc (.cells #[.int .i64 t, vc] 118)).alloc (.cells #[.int .i64 t, uc] 118) := ⟨_, rfl⟩
  have k2 : Kb 0 w w2 := by rw [hw2]; exact kb_alloc2 _ _ _ _
  have HK : Hid (Kb 0 w w2) := k2
  have HW : Hid (w2 = (w.alloc (.cells #[.int .i64 t, vc] 118)).alloc (.cells #[.int .i64 t, uc] 118)) := hw2
  clear hw2 k2
  go_enter Try.func139, Try.ntmps139
  go_wp2_with fail
  rw [← (show w2 = _ from HW)]
  clear HW
  refine ((show ∀ W', Kb 0 w W' → Calls Try.prog 19 #[vc, uc] W' fun e w' => e = .returned (.bool true) ∧ Kb 0 W' w' from G0) w2 HK).mono ?_
  rintro e x0 ⟨rfl, k0⟩
  have HL : Hid (Kb 0 w x0) := (show Kb 0 w w2 from HK).trans k0
  clear HK k0 G0
  go_wp2_with fail
  go_ret
  exact ⟨rfl, HL⟩
set_option maxHeartbeats 8000000 in
theorem eq_row2 {va vb : Value} {n : Nat} {F : Nat → Ed} (w : World) (ha : RowE 2 0 w va n F) (hb : RowE 2 0 w vb n F) (hn : n ≤ 1048576) (hF : ∀ i, i < n → (F i).c ≤ 1048576) :
    Calls Try.prog 78 #[va, vb] w fun e w' => e = .returned (.bool true) ∧ Kb 0 w w' := by
  obtain ⟨pa, ca, rfl, ha2⟩ := ha
  obtain ⟨pb, cb, rfl, hb2⟩ := hb
  have HA : Hid ((0 < n → ∃ a : Addr, pa = some a ∧ n ≤ ca ∧ 0 ≤ a.block ∧ ∀ i, i < n → ElC 2 0 w (a.add (i * 2)) (F i)) ∧ (0 < n → ∃ a : Addr, pb = some a ∧ n ≤ cb ∧ 0 ≤ a.block ∧ ∀ i, i < n → ElC 2 0 w (a.add (i * 2)) (F i)) ∧ (∀ i, i < n → (F i).c ≤ 1048576)) := (⟨ha2, hb2, hF⟩ : _ ∧ _)
  have hnI : (n : Int) ≤ 1048576 := by omega
  clear ha2 hb2 hn hF
  go_enter Try.func78, Try.ntmps78
  go_wp2_with fail
  go_loopw [5] (fun s5 wr => ∃ i : Nat, s5 = .int .i64 (i : Int) ∧ i ≤ n ∧ Hid (Kb 0 w wr)) (fun s5 _ => n - (intOf s5).toNat)
  case atStart => exact ⟨0, rfl, Nat.zero_le _, Kb.refl _ _⟩
  case round =>
    obtain ⟨i, rfl, hin, HB⟩ := hrel
    rcases Nat.lt_or_ge i n with hi | hi
    · have hA := (show (0 < n → ∃ a : Addr, pa = some a ∧ n ≤ ca ∧ 0 ≤ a.block ∧ ∀ i, i < n → ElC 2 0 w (a.add (i * 2)) (F i)) ∧ (0 < n → ∃ a : Addr, pb = some a ∧ n ≤ cb ∧ 0 ≤ a.block ∧ ∀ i, i < n → ElC 2 0 w (a.add (i * 2)) (F i)) ∧ (∀ i, i < n → (F i).c ≤ 1048576) from HA)
      obtain ⟨qa, rfl, hca, -, hra⟩ := hA.1 (by omega)
      obtain ⟨qb, rfl, hcb, -, hrb⟩ := hA.2.1 (by omega)
      have hiI : (i : Int) < (n : Int) := by omega
      obtain ⟨vc, x0, xt, h1⟩ := (hra i hi).keep (.inr (.inl rfl)) (Nat.zero_le _) (show Kb 0 w wr from HB)
      obtain ⟨uc, z0, zt, h2⟩ := (hrb i hi).keep (.inr (.inl rfl)) (Nat.zero_le _) (show Kb 0 w wr from HB)
      have y1 := hA.2.2 i hi
      obtain ⟨p0, c0, rfl, -⟩ := id h1
      obtain ⟨p1, c1, rfl, -⟩ := id h2
      have heq0 : ∀ W', Kb 0 wr W' → Calls Try.prog 139 #[.agg #[.int .i64 (F i).b, .slice p0 (F i).c c0], .agg #[.int .i64 (F i).b, .slice p1 (F i).c c1]] W' fun e w' => e = .returned (.bool true) ∧ Kb 0 W' w' := fun W' k => eq_el2 W' (fun W k2 => eq_bytsK W (h1.keep (k.trans k2)) (h2.keep (k.trans k2)) y1)
      have heq : ∀ W', W'.heap = wr.heap → W'.os = wr.os → W'.output = wr.output → Calls Try.prog 139 #[.agg #[.int .i64 (F i).b, .slice p0 (F i).c c0], .agg #[.int .i64 (F i).b, .slice p1 (F i).c c1]] W' fun e w' => e = .returned (.bool true) ∧ Kb 0 wr w' := fun W' h0 h1 h2 => by
        have kk : Kb 0 wr W' := ⟨h1, h2, by rw [h0]; exact Nat.le_refl _, fun k _ _ => by rw [h0]⟩
        refine (heq0 W' kk).mono ?_
        rintro e w' ⟨rfl, k⟩
        exact ⟨rfl, kk.trans k⟩
      have a0 : wr.cell? (qa.add (i * 2)) = some (.int .i64 (F i).b) := x0
      have a1 : wr.cell? ⟨(qa.add (i * 2)).block, (qa.add (i * 2)).off + 1, none⟩ = some (.slice p0 (F i).c c0) := xt 1 (by omega) (by omega)
      have b0 : wr.cell? (qb.add (i * 2)) = some (.int .i64 (F i).b) := z0
      have b1 : wr.cell? ⟨(qb.add (i * 2)).block, (qb.add (i * 2)).off + 1, none⟩ = some (.slice p1 (F i).c c1) := zt 1 (by omega) (by omega)
      clear hra hrb hA HA h1 h2 y1 x0 xt z0 zt heq0
      generalize (F i).c = fc at *
      generalize (F i).b = fb at *
      have HKEEP : Hid (∀ (W' : World), Kb 0 wr W' → W'.cell? (qa.add (i * 2)) = some (.int .i64 fb) ∧ W'.cell? ⟨(qa.add (i * 2)).block, (qa.add (i * 2)).off + 1, none⟩ = some (.slice p0 fc c0) ∧ W'.cell? (qb.add (i * 2)) = some (.int .i64 fb) ∧ W'.cell? ⟨(qb.add (i * 2)).block, (qb.add (i * 2)).off + 1, none⟩ = some (.slice p1 fc c1)) := by
        show ∀ (W' : World), _
        intro W' k
        exact ⟨k.cell a0, k.cell a1, k.cell b0, k.cell b1⟩
      have HEQ : Hid (∀ W', W'.heap = wr.heap → W'.os = wr.os → W'.output = wr.output → Calls Try.prog 139 #[.agg #[.int .i64 fb, .slice p0 fc c0], .agg #[.int .i64 fb, .slice p1 fc c1]] W' fun e w' => e = .returned (.bool true) ∧ Kb 0 wr w') := heq
      clear hin heq
      go_wp2_with fail
      go_region_held_law (fun W' => W'.cell? (qa.add (i * 2)) = some (.int .i64 fb) ∧ W'.cell? ⟨(qa.add (i * 2)).block, (qa.add (i * 2)).off + 1, none⟩ = some (.slice p0 fc c0) ∧ W'.cell? (qb.add (i * 2)) = some (.int .i64 fb) ∧ W'.cell? ⟨(qb.add (i * 2)).block, (qb.add (i * 2)).off + 1, none⟩ = some (.slice p1 fc c1)) (first | exact ⟨a0, a1, b0, b1⟩ | exact (show ∀ (W' : World), _ from HKEEP) _ k5)
        ((go_at_call 139; refine ((show ∀ W', W'.heap = wr.heap → W'.os = wr.os → W'.output = wr.output → Calls Try.prog 139 #[.agg #[.int .i64 fb, .slice p0 fc c0], .agg #[.int .i64 fb, .slice p1 fc c1]] W' fun e w' => e = .returned (.bool true) ∧ Kb 0 wr w' from HEQ) _ (by exact rfl) (by exact rfl) (by exact rfl)).mono ?_; rintro e w5 ⟨rfl, k5⟩))
      all_goals
        have HB5 : Hid (Kb 0 w w5) := (show Kb 0 w wr from HB).trans k5
        clear HB HKEEP HEQ k5 a0 a1 b0 b1
        go_wp2_with fail
        go_roundw
        case rel => exact ⟨i + 1, by go_num, by omega, HB5⟩
        case measure => simp [intOf]; omega
    · obtain rfl : i = n := by omega
      clear HA
      go_wp2_with fail
      go_ret
      exact ⟨rfl, HB⟩
end Go.Proofs.Ytbbjbojjglhgmaa.Fo
