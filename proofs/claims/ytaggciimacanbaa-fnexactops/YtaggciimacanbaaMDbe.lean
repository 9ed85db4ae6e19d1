import Derived.Test.YtaggciimacanbaaMDae
namespace Go.Proofs.Ytaggciimacanbaa.Fo
open Go.ChangeShapes Go.WideShapes Go.ChangeAt Go.RowKit
set_option linter.unusedVariables false
set_option maxRecDepth 100000
set_option maxHeartbeats 4000000 in
theorem sz_el3 {f : Ed} {vc : Value} {z : Nat} (w : World) (l : Int) (g0 : ∀ W (l : Int), Kb 0 w W → 0 ≤ l → l ≤ 1048576 → Calls Try.prog 78 #[vc, .int .i64 l] W (Szd z l W)) (hl0 : 0 ≤ l) (hl : l ≤ 1048576) :
    Calls Try.prog 74 #[.agg #[.bool f.s, .int .i64 f.b, vc], .int .i64 l] w (Szd z l w) := by
  have G0 : Hid (∀ W (l : Int), Kb 0 w W → 0 ≤ l → l ≤ 1048576 → Calls Try.prog 78 #[vc, .int .i64 l] W (Szd z l W)) := g0
  clear g0
  go_enter Try.func74, Try.ntmps74
  go_wp2_with fail
  refine ((show ∀ W (l : Int), Kb 0 w W → 0 ≤ l → l ≤ 1048576 → Calls Try.prog 78 #[vc, .int .i64 l] W (Szd z l W) from G0) _ l (kb_alloc _ _ _) hl0 hl).mono ?_
  rintro e w1 ⟨r, rfl, s1, m1, t1, k1⟩
  have HK : Hid (Kb 0 w w1) := (kb_alloc _ _ _).trans k1
  clear k1 G0
  rcases Int.lt_or_le r 0 with c | c
  · go_wp2_with fail
    go_ret
    exact ⟨-1, rfl, fun h => by omega, by omega, by omega, HK⟩
  · have c' : ¬ r < 0 := by omega
    go_wp2_with fail
    go_ret
    exact ⟨r, rfl, s1, by omega, t1, HK⟩
set_option maxHeartbeats 4000000 in
theorem sz_row3 {va : Value} {n : Nat} {F : Nat → Ed} (w : World) (l : Int) (ha : RowE 3 0 w va n F) (hn : (n : Int) < 140737488355328) (hF : ∀ i, i < n → ((F i).c : Int) < 140737488355328) (hl0 : 0 ≤ l) (hl : l ≤ 1048576) :
    Calls Try.prog 37 #[va, .int .i64 l] w (Szd (n + sm (fun i => (F i).c) n) l w) := by
  obtain ⟨pa, ca, rfl, ha2⟩ := ha
  have HA : Hid ((0 < n → ∃ a : Addr, pa = some a ∧ n ≤ ca ∧ 0 ≤ a.block ∧ ∀ i, i < n → ElC 3 0 w (a.add (i * 3)) (F i)) ∧ ∀ i, i < n → ((F i).c : Int) < 140737488355328) := (⟨ha2, hF⟩ : _ ∧ _)
  clear ha2 hF
  go_enter Try.func37, Try.ntmps37
  rcases Int.lt_or_le (l - n) 0 with h | h
  · clear HA
    go_wp2_with fail
    go_ret
    exact ⟨-1, rfl, fun f => by omega, by omega, by omega, Kb.refl _ _⟩
  · have h' : ¬ (l - n < 0) := by omega
    go_wp2_with fail
    go_loopw [1, 5] (fun s1 s5 wr => ∃ (i : Nat) (x : Int), s1 = .int .i64 x ∧ s5 = .int .i64 (i : Int) ∧ i ≤ n ∧ 0 ≤ x ∧ x ≤ l ∧ Hid (x + (n : Int) + (sm (fun i => (F i).c) i : Int) ≤ l ∧ Kb 0 w wr)) (fun _ s5 _ => n - (intOf s5).toNat)
    case atStart => exact ⟨0, l - n, rfl, rfl, Nat.zero_le _, by omega, by omega, (⟨by show l - n + n + ((0 : Nat) : Int) ≤ l; omega, Kb.refl _ _⟩ : _ ∧ _)⟩
    case round =>
      obtain ⟨i, x, rfl, rfl, hin, hx0, hx1, HX⟩ := hrel
      rcases Nat.lt_or_ge i n with hi | hi
      · have hA := (show (0 < n → ∃ a : Addr, pa = some a ∧ n ≤ ca ∧ 0 ≤ a.block ∧ ∀ i, i < n → ElC 3 0 w (a.add (i * 3)) (F i)) ∧ ∀ i, i < n → ((F i).c : Int) < 140737488355328 from HA)
        have hX := (show x + (n : Int) + (sm (fun i => (F i).c) i : Int) ≤ l ∧ Kb 0 w wr from HX)
        obtain ⟨a, rfl, hca, -, hra⟩ := hA.1 (by omega)
        obtain ⟨v, h0, ht, hr⟩ := (hra i hi).keep (.inr (.inr rfl)) (Nat.zero_le _) hX.2
        have hX3 := hA.2 i hi
        obtain ⟨p0, c0, rfl, -⟩ := id hr
        have HS : Hid (Calls Try.prog 74 #[.agg #[.bool (F i).s, .int .i64 (F i).b, .slice p0 (F i).c c0], .int .i64 x] wr (Szd (F i).c x wr)) := sz_el3 wr x (fun W l k q0 q1 => sz_byts W l (hr.keep k) hX3 q0 q1) hx0 (by omega)
        have d0 : wr.cell? (a.add (i * 3)) = some (.bool (F i).s) := h0
        have d1 : wr.cell? ⟨(a.add (i * 3)).block, (a.add (i * 3)).off + 1, none⟩ = some (.int .i64 (F i).b) := ht 1 (by omega) (by omega)
        have d2 : wr.cell? ⟨(a.add (i * 3)).block, (a.add (i * 3)).off + 2, none⟩ = some (.slice p0 (F i).c c0) := ht 2 (by omega) (by omega)
        have hiI : (i : Int) < (n : Int) := by omega
        clear hA hX hra HA hin h0 ht hr hX3
        go_wp2_with fail
        refine (show Calls Try.prog 74 #[.agg #[.bool (F i).s, .int .i64 (F i).b, .slice p0 (F i).c c0], .int .i64 x] wr (Szd (F i).c x wr) from HS).mono ?_
        rintro e w6 ⟨r, rfl, hs, hm1, hr1, hb6⟩
        have hX := (show x + (n : Int) + (sm (fun i => (F i).c) i : Int) ≤ l ∧ Kb 0 w wr from HX)
        have HB6 : Hid ((0 ≤ r → r + (n : Int) + (sm (fun i => (F i).c) (i + 1) : Int) ≤ l) ∧ Kb 0 w w6) := (⟨fun h => by
          have := hs h
          have := hX.1
          show r + (n : Int) + ((sm (fun i => (F i).c) i + (F i).c : Nat) : Int) ≤ l
          omega, hX.2.trans hb6⟩ : _ ∧ _)
        clear HS HX hX hb6 hs d0 d1 d2
        rcases Int.lt_or_le r 0 with hr0 | hr0
        · go_wp2_with fail
          go_ret
          exact ⟨-1, rfl, fun f => by omega, by omega, by omega, HB6.2⟩
        · have hr0' : ¬ (r < 0) := by omega
          have hr2 : r ≤ l := by omega
          have hnI : (n : Int) ≤ 1048576 := by omega
          clear hn h h' hm1 hx0 hx1 hr1
          go_wp2_with fail
          go_roundw
          case rel => exact ⟨i + 1, r, rfl, by go_num, by omega, hr0, hr2, (⟨HB6.1 hr0, HB6.2⟩ : _ ∧ _)⟩
          case measure => simp [intOf]; omega
      · obtain rfl : i = n := by omega
        clear HA
        go_wp2_with fail
        go_ret
        have hX := (show x + (i : Int) + (sm (fun i => (F i).c) i : Int) ≤ l ∧ Kb 0 w wr from HX)
        exact ⟨x, rfl, fun _ => by have := hX.1; omega, by omega, hx1, hX.2⟩
set_option maxHeartbeats 8000000 in
theorem eq_el3 {f : Ed} {vc uc : Value} (w : World)
    (g0 : ∀ W', Kb 0 w W' → Calls Try.prog 15 #[vc, uc] W' fun e w' => e = .returned (.bool true) ∧ Kb 0 W' w') :
    Calls Try.prog 73 #[.agg #[.bool f.s, .int .i64 f.b, vc], .agg #[.bool f.s, .int .i64 f.b, uc]] w fun e w' => e = .returned (.bool true) ∧ Kb 0 w w' := by
  have G0 : Hid (∀ W', Kb 0 w W' → Calls Try.prog 15 #[vc, uc] W' fun e w' => e = .returned (.bool true) ∧ Kb 0 W' w') := g0
  clear g0
  generalize f.b = t at *
  have e1 : (t != t) = false := by simp
  generalize f.s = u at *
  have e2 : (u != u) = false := by cases u <;> rfl
  obtain ⟨w2, hw2⟩ : ∃ w2, w2 = (w.alloc (.cells #[.bool u, .int .i64 t, vc] 96)).alloc (.cells #[.bool u, .int .i64 t, uc] 96) := ⟨_, rfl⟩
  have k2 : Kb 0 w w2 := by rw [hw2]; exact kb_alloc2 _ _ _ _
  have HK : Hid (Kb 0 w w2) := k2
  have HW : Hid (w2 = (w.alloc (.cells #[.bool u, .int .i64 t, vc] 96)).alloc (.cells #[.bool u, .int .i64 t, uc] 96)) := hw2
  clear hw2 k2
  go_enter Try.func73, Try.ntmps73
  go_wp2_with fail
  rw [← (show w2 = _ from HW)]
  clear HW
  refine ((show ∀ W', Kb 0 w W' → Calls Try.prog 15 #[vc, uc] W' fun e w' => e = .returned (.bool true) ∧ Kb 0 W' w' from G0) w2 HK).mono ?_
  rintro e x0 ⟨rfl, k0⟩
  have HL : Hid (Kb 0 w x0) := (show Kb 0 w w2 from HK).trans k0
  clear HK k0 G0
  go_wp2_with fail
  go_ret
  exact ⟨rfl, HL⟩
set_option maxHeartbeats 8000000 in
theorem eq_row3 {va vb : Value} {n : Nat} {F : Nat → Ed} (w : World) (ha : RowE 3 0 w va n F) (hb : RowE 3 0 w vb n F) (hn : n ≤ 1048576) (hF : ∀ i, i < n → (F i).c ≤ 1048576) :
    Calls Try.prog 34 #[va, vb] w fun e w' => e = .returned (.bool true) ∧ Kb 0 w w' := by
  obtain ⟨pa, ca, rfl, ha2⟩ := ha
  obtain ⟨pb, cb, rfl, hb2⟩ := hb
  have HA : Hid ((0 < n → ∃ a : Addr, pa = some a ∧ n ≤ ca ∧ 0 ≤ a.block ∧ ∀ i, i < n → ElC 3 0 w (a.add (i * 3)) (F i)) ∧ (0 < n → ∃ a : Addr, pb = some a ∧ n ≤ cb ∧ 0 ≤ a.block ∧ ∀ i, i < n → ElC 3 0 w (a.add (i * 3)) (F i)) ∧ (∀ i, i < n → (F i).c ≤ 1048576)) := (⟨ha2, hb2, hF⟩ : _ ∧ _)
  have hnI : (n : Int) ≤ 1048576 := by omega
  clear ha2 hb2 hn hF
  go_enter Try.func34, Try.ntmps34
  go_wp2_with fail
  go_loopw [5] (fun s5 wr => ∃ i : Nat, s5 = .int .i64 (i : Int) ∧ i ≤ n ∧ Hid (Kb 0 w wr)) (fun s5 _ => n - (intOf s5).toNat)
  case atStart => exact ⟨0, rfl, Nat.zero_le _, Kb.refl _ _⟩
  case round =>
    obtain ⟨i, rfl, hin, HB⟩ := hrel
    rcases Nat.lt_or_ge i n with hi | hi
    · have hA := (show (0 < n → ∃ a : Addr, pa = some a ∧ n ≤ ca ∧ 0 ≤ a.block ∧ ∀ i, i < n → ElC 3 0 w (a.add (i * 3)) (F i)) ∧ (0 < n → ∃ a : Addr, pb = some a ∧ n ≤ cb ∧ 0 ≤ a.block ∧ ∀ i, i < n → ElC 3 0 w (a.add (i * 3)) (F i)) ∧ (∀ i, i < n → (F i).c ≤ 1048576) from HA)
      obtain ⟨qa, rfl, hca, -, hra⟩ := hA.1 (by omega)
      obtain ⟨qb, rfl, hcb, -, hrb⟩ := hA.2.1 (by omega)
      have hiI : (i : Int) < (n : Int) := by omega
      obtain ⟨vc, x0, xt, h1⟩ := (hra i hi).keep (.inr (.inr rfl)) (Nat.zero_le _) (show Kb 0 w wr from HB)
      obtain ⟨uc, z0, zt, h2⟩ := (hrb i hi).keep (.inr (.inr rfl)) (Nat.zero_le _) (show Kb 0 w wr from HB)
      have y1 := hA.2.2 i hi
      obtain ⟨p0, c0, rfl, -⟩ := id h1
      obtain ⟨p1, c1, rfl, -⟩ := id h2
      have heq0 : ∀ W', Kb 0 wr W' → Calls Try.prog 73 #[.agg #[.bool (F i).s, .int .i64 (F i).b, .slice p0 (F i).c c0], .agg #[.bool (F i).s, .int .i64 (F i).b, .slice p1 (F i).c c1]] W' fun e w' => e = .returned (.bool true) ∧ Kb 0 W' w' := fun W' k => eq_el3 W' (fun W k2 => eq_bytsK W (h1.keep (k.trans k2)) (h2.keep (k.trans k2)) y1)
      have heq : ∀ W', W'.heap = wr.heap → W'.os = wr.os → W'.output = wr.output → Calls Try.prog 73 #[.agg #[.bool (F i).s, .int .i64 (F i).b, .slice p0 (F i).c c0], .agg #[.bool (F i).s, .int .i64 (F i).b, .slice p1 (F i).c c1]] W' fun e w' => e = .returned (.bool true) ∧ Kb 0 wr w' := fun W' h0 h1 h2 => by
        have kk : Kb 0 wr W' := ⟨h1, h2, by rw [h0]; exact Nat.le_refl _, fun k _ _ => by rw [h0]⟩
        refine (heq0 W' kk).mono ?_
        rintro e w' ⟨rfl, k⟩
        exact ⟨rfl, kk.trans k⟩
      have a0 : wr.cell? (qa.add (i * 3)) = some (.bool (F i).s) := x0
      have a1 : wr.cell? ⟨(qa.add (i * 3)).block, (qa.add (i * 3)).off + 1, none⟩ = some (.int .i64 (F i).b) := xt 1 (by omega) (by omega)
      have a2 : wr.cell? ⟨(qa.add (i * 3)).block, (qa.add (i * 3)).off + 2, none⟩ = some (.slice p0 (F i).c c0) := xt 2 (by omega) (by omega)
      have b0 : wr.cell? (qb.add (i * 3)) = some (.bool (F i).s) := z0
      have b1 : wr.cell? ⟨(qb.add (i * 3)).block, (qb.add (i * 3)).off + 1, none⟩ = some (.int .i64 (F i).b) := zt 1 (by omega) (by omega)
      have b2 : wr.cell? ⟨(qb.add (i * 3)).block, (qb.add (i * 3)).off + 2, none⟩ = some (.slice p1 (F i).c c1) := zt 2 (by omega) (by omega)
      clear hra hrb hA HA h1 h2 y1 x0 xt z0 zt heq0
      generalize (F i).c = fc at *
      generalize (F i).b = fb at *
      generalize (F i).s = fs at *
      have HKEEP : Hid (∀ (W' : World), Kb 0 wr W' → W'.cell? (qa.add (i * 3)) = some (.bool fs) ∧ W'.cell? ⟨(qa.add (i * 3)).block, (qa.add (i * 3)).off + 1, none⟩ = some (.int .i64 fb) ∧ W'.cell? ⟨(qa.add (i * 3)).block, (qa.add (i * 3)).off + 2, none⟩ = some (.slice p0 fc c0) ∧ W'.cell? (qb.add (i * 3)) = some (.bool fs) ∧ W'.cell? ⟨(qb.add (i * 3)).block, (qb.add (i * 3)).off + 1, none⟩ = some (.int .i64 fb) ∧ W'.cell? ⟨(qb.add (i * 3)).block, (qb.add (i * 3)).off + 2, none⟩ = some (.slice p1 fc c1)) := by
        show ∀ (W' : World), _
        intro W' k
        exact ⟨k.cell a0, k.cell a1, k.cell a2, k.cell b0, k.cell b1, k.cell b2⟩
      have HEQ : Hid (∀ W', W'.heap = wr.heap → W'.os = wr.os → W'.output = wr.output → Calls Try.prog 73 #[.agg #[.bool fs, .int .i64 fb, .slice p0 fc c0], .agg #[.bool fs, .int .i64 fb, .slice p1 fc c1]] W' fun e w' => e = .returned (.bool true) ∧ Kb 0 wr w') := heq
      clear hin heq
      go_wp2_with fail
      go_region_held_law (fun W' => W'.cell? (qa.add (i * 3)) = some (.bool fs) ∧ W'.cell? ⟨(qa.add (i * 3)).block, (qa.add (i * 3)).off + 1, none⟩ = some (.int .i64 fb) ∧ W'.cell? ⟨(qa.add (i * 3)).block, (qa.add (i * 3)).off + 2, none⟩ = some (.slice p0 fc c0) ∧ W'.cell? (qb.add (i * 3)) = some (.bool fs) ∧ W'.cell? ⟨(qb.add (i * 3)).block, (qb.add (i * 3)).off + 1, none⟩ = some (.int .i64 fb) ∧ W'.cell? ⟨(qb.add (i * 3)).block, (qb.add (i * 3)).off + 2, none⟩ = some (.slice p1 fc c1)) (first | exact ⟨a0, a1, a2, b0, b1, b2⟩ | exact (show ∀ (W' : World), _ from HKEEP) _ k5)
        ((go_at_call 73; refine ((show ∀ W', W'.heap = wr.heap → W'.os = wr.os → W'.output = wr.output → Calls Try.prog 73 #[.agg #[.bool fs, .int .i64 fb, .slice p0 fc c0], .agg #[.bool fs, .int .i64 fb, .slice p1 fc c1]] W' fun e w' => e = .returned (.bool true) ∧ Kb 0 wr w' from HEQ) _ (by exact rfl) (by exact rfl) (by exact rfl)).mono ?_; rintro e w5 ⟨rfl, k5⟩))
      all_goals
        have HB5 : Hid (Kb 0 w w5) := (show Kb 0 w wr from HB).trans k5
        clear HB HKEEP HEQ k5 a0 a1 a2 b0 b1 b2
        go_wp2_with fail
        go_roundw
        case rel => exact ⟨i + 1, by go_num, by omega, HB5⟩
        case measure => simp [intOf]; omega
    · obtain rfl : i = n := by omega
      clear HA
      go_wp2_with fail
      go_ret
      exact ⟨rfl, HB⟩
end Go.Proofs.Ytaggciimacanbaa.Fo

namespace Go.Proofs.Ytaggciimacanbaa.Fo
open Go.ChangeShapes Go.WideShapes Go.ChangeAt Go.RowKit
set_option linter.unusedVariables false
set_option maxRecDepth 100000
set_option maxHeartbeats 8000000 in
theorem to_el3 {f : Ed} {vc : Value} {c : Nat} {A : Nat → Int} (w : World)
    (g0 : ∀ W, Kb 0 w W → Calls Try.prog 12 #[vc] W fun e w' => ∃ v b, e = .returned v ∧ OwnR w' v b c (ub A) ∧ (W.heap.size ≤ b ∧ b < w'.heap.size) ∧ Kb 0 W w') :
    Calls Try.prog 76 #[.agg #[.bool f.s, .int .i64 f.b, vc]] w fun e w' => ∃ v0 b, e = .returned (.agg #[.bool f.s, .int .i64 f.b, v0]) ∧ OwnR w' v0 b c (ub A) ∧ (w.heap.size ≤ b ∧ b < w'.heap.size) ∧ Kb 0 w w' := by
  have G0 : Hid (∀ W, Kb 0 w W → Calls Try.prog 12 #[vc] W fun e w' => ∃ v b, e = .returned v ∧ OwnR w' v b c (ub A) ∧ (W.heap.size ≤ b ∧ b < w'.heap.size) ∧ Kb 0 W w') := g0
  clear g0
  go_enter Try.func76, Try.ntmps76
  go_wp2_with fail
  obtain ⟨w3, hw3⟩ : ∃ w3, w3 = ((w.alloc (.cells #[.bool f.s, .int .i64 f.b, vc] 101)).alloc (.cells #[.bool false, .int .i64 0, .slice none 0 0] 96)).alloc (.cells #[.bool f.s, .int .i64 f.b, .slice none 0 0] 96) := ⟨_, rfl⟩
  rw [← hw3]
  obtain ⟨b0, b1, b2, z3, k3⟩ := three_new w _ _ _ _ _ _ w3 hw3
  clear hw3
  refine ((show ∀ W, Kb 0 w W → Calls Try.prog 12 #[vc] W fun e w' => ∃ v b, e = .returned v ∧ OwnR w' v b c (ub A) ∧ (W.heap.size ≤ b ∧ b < w'.heap.size) ∧ Kb 0 W w' from G0) w3 k3).mono ?_
  rintro e x0 ⟨v0, bb, rfl, r0, hbb, q0⟩
  clear G0
  have zq0 := q0.size
  have b1x0 : x0.heap[w.heap.size + 1]? = some (.cells #[.bool false, .int .i64 0, .slice none 0 0] 96 (0, 0)) := (q0.block _ (Nat.zero_le _) (by omega)).trans b1
  have b2x0 : x0.heap[w.heap.size + 1 + 1]? = some (.cells #[.bool f.s, .int .i64 f.b, .slice none 0 0] 96 (0, 0)) := (q0.block _ (Nat.zero_le _) (by omega)).trans b2
  clear b0 b1 b2
  obtain ⟨p0, l0, rfl, _⟩ := id r0.sl
  have KW := k3.trans q0
  have e0 : x0.cell? ⟨w.heap.size + 1 + 1, 0, none⟩ = some (.bool f.s) := cell_of b2x0 rfl
  have e1 : x0.cell? ⟨w.heap.size + 1 + 1, 1, none⟩ = some (.int .i64 f.b) := cell_of b2x0 rfl
  have e2 : x0.cell? ⟨w.heap.size + 1 + 1, 2, none⟩ = some (.slice none 0 0) := cell_of b2x0 rfl
  have fz : x0.frozen? ⟨w.heap.size + 1 + 1, 2, none⟩ = false := frozen_of b2x0
  have a0 : x0.cell? ⟨w.heap.size + 1, 0, none⟩ = some (.bool false) := cell_of b1x0 rfl
  have a1 : x0.cell? ⟨w.heap.size + 1, 1, none⟩ = some (.int .i64 0) := cell_of b1x0 rfl
  have a2 : x0.cell? ⟨w.heap.size + 1, 2, none⟩ = some (.slice none 0 0) := cell_of b1x0 rfl
  have fy : ∀ j, x0.frozen? ⟨w.heap.size + 1, j, none⟩ = false := fun j => frozen_of b1x0
  have HE : Hid (Kb 0 w x0 ∧ OwnR x0 (.slice p0 c l0) bb c (ub A) ∧ w.heap.size + 3 ≤ bb ∧ bb < x0.heap.size) := (⟨KW, r0, by omega, hbb.2⟩ : _ ∧ _)
  clear KW b1x0 b2x0 r0 q0 zq0 k3 z3 hbb
  go_wp2_with fail
  refine bodyPost_ret (by simp [results, Try.results76, go_sem, a0, a1, a2]; rfl) rfl ?_
  obtain ⟨KW, s0, hb1, hb2⟩ := (show _ ∧ _ ∧ _ ∧ _ from HE)
  clear HE
  have hq := (((((Kb.refl (w.heap.size + 3) x0).setCell ⟨w.heap.size + 1 + 1, 2, none⟩ (Or.inl (show w.heap.size + 1 + 1 < w.heap.size + 3 by omega)) (.slice p0 c l0)).setCell ⟨w.heap.size + 1, 0, none⟩ (Or.inl (show w.heap.size + 1 < w.heap.size + 3 by omega)) (.bool f.s)).setCell ⟨w.heap.size + 1, 1, none⟩ (Or.inl (show w.heap.size + 1 < w.heap.size + 3 by omega)) (.int .i64 f.b)).setCell ⟨w.heap.size + 1, 2, none⟩ (Or.inl (show w.heap.size + 1 < w.heap.size + 3 by omega)) (.slice p0 c l0))
  have hk := ((((KW.setCell ⟨w.heap.size + 1 + 1, 2, none⟩ (Or.inr (show w.heap.size ≤ w.heap.size + 1 + 1 by omega)) (.slice p0 c l0)).setCell ⟨w.heap.size + 1, 0, none⟩ (Or.inr (show w.heap.size ≤ w.heap.size + 1 by omega)) (.bool f.s)).setCell ⟨w.heap.size + 1, 1, none⟩ (Or.inr (show w.heap.size ≤ w.heap.size + 1 by omega)) (.int .i64 f.b)).setCell ⟨w.heap.size + 1, 2, none⟩ (Or.inr (show w.heap.size ≤ w.heap.size + 1 by omega)) (.slice p0 c l0))
  exact ⟨_, bb, rfl, s0.kb (fun _ => hq.block bb (by omega) hb2), ⟨by omega, Nat.lt_of_lt_of_le hb2 hq.size⟩, hk⟩
set_option maxHeartbeats 8000000 in
theorem to_row3 {va : Value} {n : Nat} {F : Nat → Ed} (w : World) (ha : RowE 3 0 w va n F) (hn : n ≤ 1048576) (hF : ∀ i, i < n → (F i).c ≤ 1048576) :
    Calls Try.prog 39 #[va] w fun e w' => ∃ v g V G, e = .returned v ∧ OwE 3 w.heap.size w'.heap.size w' v n F g V G ∧ Kb 0 w w' := by
  obtain ⟨pa, ca, rfl, ha2⟩ := ha
  have hnI : (n : Int) ≤ 1048576 := by omega
  have hmk := run_make (P := Try.prog) w 56 96 Try.t96 (.agg #[.bool false, .int .i64 0, .slice none 0 0]) Try.underlying56 (by kernel_rfl) (by kernel_rfl) .i64 .i64 (n : Int) (n : Int) (by omega) (Int.le_refl _) (by show (40 : Int) * (n : Int) ≤ _; omega) (by omega)
  rw [Int.toNat_natCast] at hmk
  obtain ⟨w1, hw1⟩ : ∃ w1, w1 = w.alloc (.cells (madeCells (.agg #[.bool false, .int .i64 0, .slice none 0 0] : Value).cells (n * 3)) 96) := ⟨_, rfl⟩
  have hmk2 := hmk
  rw [show n * Try.t96.size = n * 3 from rfl, ← hw1] at hmk2
  clear hmk
  have hk1 : Kb 0 w w1 := by rw [hw1]; exact kb_alloc _ _ _
  have hz1 : w1.heap.size = w.heap.size + 1 := by rw [hw1]; simp
  obtain ⟨G, hG⟩ : ∃ G, G = w.heap.size := ⟨_, rfl⟩
  have HI0 : Hid (TsE 3 w1 G n F 0 w1) := by
    refine (⟨fun _ => .slice none 0 0, fun _ => 0, ?_, fun j hj => by omega, fun j j' hj => by omega⟩ : TsE 3 w1 G n F 0 w1)
    rw [hG, hw1]
    exact mk_zero w _ 3 _ n _ rfl
  have HA : Hid ((0 < n → ∃ a : Addr, pa = some a ∧ n ≤ ca ∧ 0 ≤ a.block ∧ ∀ i, i < n → ElC 3 0 w (a.add (i * 3)) (F i)) ∧ Kb 0 w w1 ∧ G = w.heap.size ∧ w1.heap.size = G + 1 ∧ (∀ i, i < n → (F i).c ≤ 1048576)) := (⟨ha2, hk1, hG, by omega, hF⟩ : _ ∧ _)
  rw [← hG] at hmk2
  clear ha2 hk1 hw1 hn hG hF hz1
  go_enter Try.func39, Try.ntmps39
  go_wp2_with fail
  go_loopw [4] (fun s4 wr => ∃ i : Nat, s4 = .int .i64 (i : Int) ∧ i ≤ n ∧ Hid (TsE 3 w1 G n F i wr)) (fun s4 _ => n - (intOf s4).toNat)
  case atStart => exact ⟨0, rfl, Nat.zero_le _, HI0⟩
  case round =>
    clear HI0 hmk2
    obtain ⟨i, rfl, hin, HI⟩ := hrel
    have hT0 := (show TsE 3 w1 G n F i wr from HI)
    obtain ⟨V, Gf, hM, hR, hD⟩ := id hT0
    have hA := (show (0 < n → ∃ a : Addr, pa = some a ∧ n ≤ ca ∧ 0 ≤ a.block ∧ ∀ i, i < n → ElC 3 0 w (a.add (i * 3)) (F i)) ∧ Kb 0 w w1 ∧ G = w.heap.size ∧ w1.heap.size = G + 1 ∧ (∀ i, i < n → (F i).c ≤ 1048576) from HA)
    have hBW : Kb 0 w wr := by
      have hG := hA.2.2.1
      have hA2 := hA.2.1
      exact ⟨hM.os.trans hA2.os, hM.output.trans hA2.output, Nat.le_trans hA2.size hM.size, fun b _ hb => (hM.block b (Nat.lt_of_lt_of_le hb hA2.size) (by omega)).trans (hA2.block b (Nat.zero_le _) hb)⟩
    rcases Nat.lt_or_ge i n with hi | hi
    · have hiI : (i : Int) < (n : Int) := by omega
      obtain ⟨a, rfl, hca, _, hra⟩ := hA.1 (by omega)
      obtain ⟨vc, x0, xt, hvc⟩ := (hra i hi).keep (.inr (.inr rfl)) (Nat.zero_le _) hBW
      have y1 := hA.2.2.2.2 i hi
      obtain ⟨q0, r0, rfl, -⟩ := id hvc
      have d0 : wr.cell? (a.add (i * 3)) = some (.bool (F i).s) := x0
      have d1 : wr.cell? ⟨(a.add (i * 3)).block, (a.add (i * 3)).off + 1, none⟩ = some (.int .i64 (F i).b) := xt 1 (by omega) (by omega)
      have d2 : wr.cell? ⟨(a.add (i * 3)).block, (a.add (i * 3)).off + 2, none⟩ = some (.slice q0 (F i).c r0) := xt 2 (by omega) (by omega)
      have HT : Hid (Calls Try.prog 76 #[.agg #[.bool (F i).s, .int .i64 (F i).b, .slice q0 (F i).c r0]] wr fun e w' => ∃ v0 b, e = .returned (.agg #[.bool (F i).s, .int .i64 (F i).b, v0]) ∧ OwnR w' v0 b (F i).c (ub (F i).A) ∧ (wr.heap.size ≤ b ∧ b < w'.heap.size) ∧ Kb 0 wr w') := to_el3 wr (fun W k => to_bytsK W (hvc.keep k) y1)
      have HS : Hid (∀ w6 (v0 : Value) (b0 : Nat), Kb 0 wr w6 → OwnR w6 v0 b0 (F i).c (ub (F i).A) → (wr.heap.size ≤ b0 ∧ b0 < w6.heap.size) → (∀ t, t < 3 → ∃ u, w6.cell? ⟨G, i * 3 + t, none⟩ = some u) ∧ (∀ j, w6.frozen? ⟨G, j, none⟩ = false) ∧ TsE 3 w1 G n F (i + 1) (setL w6 G (i * 3) (hdl 3 (F i) ++ [v0]))) := (fun w6 v0 b0 k6 o hb => hT0.step (.inr (.inr rfl)) hi k6 o hb : ∀ w6 (v0 : Value) (b0 : Nat), _)
      clear hA HA hM hR hD hT0 HI hra hin hBW hvc y1 x0 xt
      go_wp2_with fail
      refine (show Calls Try.prog 76 #[.agg #[.bool (F i).s, .int .i64 (F i).b, .slice q0 (F i).c r0]] wr fun e w' => ∃ v0 b, e = .returned (.agg #[.bool (F i).s, .int .i64 (F i).b, v0]) ∧ OwnR w' v0 b (F i).c (ub (F i).A) ∧ (wr.heap.size ≤ b ∧ b < w'.heap.size) ∧ Kb 0 wr w' from HT).mono ?_
      rintro e w6 ⟨v0, b0, rfl, o6, hb6, k6⟩
      obtain ⟨hc, hf, hT⟩ := (show ∀ w6 (v0 : Value) (b0 : Nat), _ from HS) w6 v0 b0 k6 o6 hb6
      obtain ⟨u0, hu0⟩ := hc 0 (by omega)
      obtain ⟨u1, hu1⟩ := hc 1 (by omega)
      obtain ⟨u2, hu2⟩ := hc 2 (by omega)
      have h0 : w6.cell? ⟨G, i * 3, none⟩ = some u0 := hu0
      have f0 : w6.frozen? ⟨G, i * 3, none⟩ = false := hf _
      have h1 : w6.cell? ⟨G, i * 3 + 1, none⟩ = some u1 := hu1
      have f1 : w6.frozen? ⟨G, i * 3 + 1, none⟩ = false := hf _
      have h2 : w6.cell? ⟨G, i * 3 + 2, none⟩ = some u2 := hu2
      have f2 : w6.frozen? ⟨G, i * 3 + 2, none⟩ = false := hf _
      obtain ⟨p0, l0, rfl, _⟩ := id o6.sl
      have HTT : Hid (TsE 3 w1 G n F (i + 1) (((w6.setCell ⟨G, i * 3, none⟩ (.bool (F i).s)).setCell ⟨G, i * 3 + 1, none⟩ (.int .i64 (F i).b)).setCell ⟨G, i * 3 + 2, none⟩ (.slice p0 (F i).c l0))) := hT
      clear hc hf hT HS HT k6 o6 hb6 d0 hu0 d1 hu1 d2 hu2
      go_wp2_with fail
      go_roundw
      case rel => exact ⟨i + 1, by go_num, by omega, HTT⟩
      case measure => simp [intOf]; omega
    · obtain rfl : i = n := by omega
      have HE : Hid (TsE 3 w1 G i F i wr ∧ Kb 0 w wr ∧ G = w.heap.size ∧ w1.heap.size = G + 1) := (⟨hT0, hBW, hA.2.2.1, hA.2.2.2.1⟩ : _ ∧ _)
      clear HI hM hR hD hA HA hBW hT0
      go_wp2_with fail
      go_ret
      obtain ⟨hT, hB, hG, hz⟩ := (show _ ∧ _ ∧ _ ∧ _ from HE)
      obtain ⟨V, Gf, ho⟩ := hT.own (Nat.le_refl i) hz
      subst hG
      exact ⟨_, _, V, Gf, rfl, ho, hB⟩
end Go.Proofs.Ytaggciimacanbaa.Fo

namespace Go.Proofs.Ytaggciimacanbaa.Fo
open Go.ChangeShapes Go.WideShapes Go.ChangeAt Go.RowKit
set_option linter.unusedVariables false
set_option maxRecDepth 100000
set_option maxHeartbeats 8000000 in
theorem mark_row3 {L H : Nat} {v : Value} {n : Nat} {F : Nat → Ed} {g : Nat} {V : Nat → Value} {G : Nat → Nat} (w : World) (k : Int) (h : OwE 3 L H w v n F g V G) (hn : n ≤ 1048576) (hc : ∀ i, i < n → (F i).c ≤ 1048576) (hk1 : 1 ≤ k) (hsm : k + (sm (mks 3 F) n : Int) ≤ 90000000) :
    Calls Try.prog 35 #[v, .int .i64 k] w fun e w' => e = .returned (.int .i64 (k + (sm (mks 3 F) n : Int))) ∧ Kq (fun q => L ≤ q ∧ q < H) w w' ∧ MdE 3 L H w' v n F g V G k := by
  obtain ⟨p, cap, rfl, h2⟩ := h.sl
  by_cases h0 : n = 0
  · subst h0
    go_enter Try.func35, Try.ntmps35
    go_wp2_with fail
    refine wp_loop_rounds 1 ?_
    rw [rounds_succ]
    go_wp2_with fail
    go_ret
    exact ⟨by simp [sm], Kq.refl _ _, ⟨⟨p, cap, rfl, fun q => by omega⟩, fun q => by omega, fun j hj => by omega, fun i hi => by omega, fun i hi => by omega⟩⟩
  obtain ⟨rfl, hcap⟩ := h2 (by omega)
  have HI0 : Hid (GE 3 L H w n F g V G k 0 w) := (⟨Kq.refl _ _, fun j hj t ht => by dsimp only; rw [if_neg (by omega)]; exact h.cs j hj t ht, h.fz (by omega), fun j _ hj => h.ow j hj, fun j hj => by omega⟩ : GE 3 L H w n F g V G k 0 w)
  have hnI : (n : Int) ≤ 1048576 := by omega
  have HS : Hid ((L ≤ g ∧ g < H) ∧ (∀ i, i < n → 0 < (F i).c → L ≤ G i ∧ G i < H ∧ G i ≠ g) ∧ (∀ i j, i < n → j < n → i ≠ j → 0 < (F i).c → 0 < (F j).c → G i ≠ G j) ∧ (∀ i, i < n → (F i).c ≤ 1048576) ∧ k + (sm (mks 3 F) n : Int) ≤ 90000000 ∧ n ≤ cap) := (⟨h.bg (by omega), h.lo, h.di, hc, hsm, hcap⟩ : _ ∧ _)
  clear h2 h hc hsm h0
  go_enter Try.func35, Try.ntmps35
  go_wp2_with fail
  go_loopw [1, 5] (fun s1 s5 wr => ∃ i : Nat, s5 = .int .i64 (i : Int) ∧ s1 = .int .i64 (k + (sm (mks 3 F) i : Int)) ∧ i ≤ n ∧ Hid (GE 3 L H w n F g V G k i wr)) (fun _ s5 _ => n - (intOf s5).toNat)
  case atStart => exact ⟨0, rfl, by simp [sm], Nat.zero_le _, HI0⟩
  case round =>
    clear HI0
    obtain ⟨i, rfl, rfl, hin, HI⟩ := hrel
    have hI := (show GE 3 L H w n F g V G k i wr from HI)
    clear HI
    obtain ⟨bg, lo, di, hcc, hsm, hcap2⟩ := (show _ ∧ _ ∧ _ ∧ _ ∧ _ ∧ _ from HS)
    rcases Nat.lt_or_ge i n with hi | hi
    · have hiI : (i : Int) < (n : Int) := by omega
      have hmo := sm_mono (mks 3 F) (show i + 1 ≤ n from hi)
      have hsu : sm (mks 3 F) (i + 1) = sm (mks 3 F) i + (3 - 1 + (F i).c) := rfl
      have hci := hcc i hi
      obtain ⟨X, hX⟩ : ∃ X : Int, X = k + (sm (mks 3 F) i : Int) := ⟨_, rfl⟩
      have hx : X ≤ 90000000 := by omega
      have hx0 : 1 ≤ X := by omega
      rw [← hX]
      have cu0 : wr.cell? ⟨g, i * 3, none⟩ = some (.bool (F i).s) := by have := hI.cs i hi 0 (by omega); dsimp only at this; rw [if_neg (by omega)] at this; exact this
      have fu0 : wr.frozen? ⟨g, i * 3, none⟩ = false := hI.fz _
      have cu1 : wr.cell? ⟨g, i * 3 + 1, none⟩ = some (.int .i64 (F i).b) := by have := hI.cs i hi 1 (by omega); dsimp only at this; rw [if_neg (by omega)] at this; exact this
      have fu1 : wr.frozen? ⟨g, i * 3 + 1, none⟩ = false := hI.fz _
      have hrem : Int.tmod X 3 = X % 3 := Int.tmod_eq_emod_of_nonneg (by omega)
      obtain ⟨y, hy⟩ : ∃ y, y = (wr.setCell ⟨g, i * 3, none⟩ (.bool (X % 3 == 0))).setCell ⟨g, i * 3 + 1, none⟩ (.int .i64 (X + 1)) := ⟨_, rfl⟩
      have hyL : y = setL wr g (i * 3) (hml 3 X) := hy
      have hyg : ∀ q, q ≠ g → y.heap[q]? = wr.heap[q]? := fun q hq => by rw [hy]; exact (Below.heap_setCell _ _ _ _ hq).trans (Below.heap_setCell _ _ _ _ hq)
      have r1 : y.cell? ⟨g, i * 3 + 2, none⟩ = some (V i) := by
        rw [hy]
        rw [set_ne _ _ _ _ _ (by omega), set_ne _ _ _ _ _ (by omega)]; have := hI.cs i hi 2 (by omega); dsimp only at this; rw [if_neg (by omega)] at this; exact this
      have HMV := mark_byts y (X + 1 + 1) ((hI.ow i (Nat.le_refl _) hi).kb (fun hc => hyg _ (lo i hi (by omega)).2.2)) hci (by omega) (by omega)
      have HST : Hid (∀ w6, Kq (fun q => 0 < (F i).c ∧ q = G i) y w6 → OwnR w6 (V i) (G i) (F i).c (fun t => .int .u8 (((X + 1 + 1) + (t : Int)) % 256)) → GE 3 L H w n F g V G k (i + 1) w6) := (fun w6 kq6 md6 => by
        rw [hyL, hX] at kq6
        refine hI.step (.inr (.inr rfl)) hi bg lo di kq6 ?_
        have e : (X + 1 + 1) = k + (sm (mks 3 F) i : Int) + ((3 - 1 : Nat) : Int) := by rw [hX]; omega
        rw [e] at md6
        exact md6 : ∀ w6, _)
      obtain ⟨pv, cv, hV, _⟩ := (hI.ow i (Nat.le_refl _) hi).sl
      rw [hV] at r1 HMV
      have HKN : Hid ((X + 1 + 1) + ((F i).c : Int) = k + (sm (mks 3 F) (i + 1) : Int) ∧ V i = .slice pv (F i).c cv) := (⟨by rw [hsu, hX]; push_cast; omega, hV⟩ : _ ∧ _)
      have HY : Hid (y = (wr.setCell ⟨g, i * 3, none⟩ (.bool (X % 3 == 0))).setCell ⟨g, i * 3 + 1, none⟩ (.int .i64 (X + 1))) := hy
      clear hI bg lo di hcc hsm hmo hsu hX hy hyL hyg hV HS
      go_upto_region 7 with fail
      rw [← (show y = _ from HY)]
      clear HY cu0 fu0 cu1 fu1 hrem
      go_wp2_with fail
      refine HMV.mono ?_
      rintro e w6 ⟨rfl, kq6, md6⟩
      have HN : Hid (GE 3 L H w n F g V G k (i + 1) w6) := (show ∀ w6, _ → _ → _ from HST) w6 kq6 (by rw [(show _ ∧ _ from HKN).2]; exact md6)
      clear kq6 md6 HMV HST r1
      go_wp2_with fail
      go_roundw
      case rel => exact ⟨i + 1, by go_num, by rw [← (show _ ∧ _ from HKN).1], by omega, HN⟩
      case measure => simp [intOf]; omega
    · obtain rfl : i = n := by omega
      have hI' : ¬ (i : Int) < (i : Int) := by omega
      have HE : Hid (GE 3 L H w i F g V G k i wr ∧ (L ≤ g ∧ g < H) ∧ (∀ q, q < i → 0 < (F q).c → L ≤ G q ∧ G q < H) ∧ i ≤ cap) := (⟨hI, bg, fun q hq hc => ⟨(lo q hq hc).1, (lo q hq hc).2.1⟩, hcap2⟩ : _ ∧ _)
      clear hI hi hin hcap bg lo di hcc hsm hcap2 HS
      go_wp2_with fail
      go_ret
      obtain ⟨hE, bg, lo, hcap⟩ := (show _ ∧ _ ∧ _ ∧ _ from HE)
      exact ⟨rfl, hE.kq, ⟨⟨_, _, rfl, fun _ => ⟨rfl, hcap⟩⟩, fun _ => bg, fun j hj t ht => by have := hE.cs j hj t ht; dsimp only at this; rw [if_pos hj] at this; exact this, hE.md, lo⟩⟩
set_option maxHeartbeats 8000000 in
theorem held_row3 {L H : Nat} {v : Value} {n : Nat} {F : Nat → Ed} {g : Nat} {V : Nat → Value} {G : Nat → Nat} (w : World) (k : Int) (h : MdE 3 L H w v n F g V G k) (hn : n ≤ 1048576) (hc : ∀ i, i < n → (F i).c ≤ 1048576) (hk1 : 1 ≤ k) (hsm : k + (sm (mks 3 F) n : Int) ≤ 90000000) :
    Calls Try.prog 36 #[v, .int .i64 k] w fun e w' => e = .returned (.int .i64 (k + (sm (mks 3 F) n : Int))) ∧ Kb 0 w w' := by
  obtain ⟨p, cap, rfl, h2⟩ := h.sl
  have hnI : (n : Int) ≤ 1048576 := by omega
  have HH : Hid ((0 < n → p = some ⟨g, 0, none⟩ ∧ n ≤ cap) ∧ Cs 3 w g n (fun j => hml 3 (k + (sm (mks 3 F) j : Int)) ++ [V j]) ∧ (∀ i, i < n → OwnR w (V i) (G i) (F i).c (fun j => .int .u8 ((k + (sm (mks 3 F) i : Int) + ((3 - 1 : Nat) : Int) + (j : Int)) % 256))) ∧ (∀ i, i < n → (F i).c ≤ 1048576) ∧ k + (sm (mks 3 F) n : Int) ≤ 90000000) := (⟨h2, h.cs, h.md, hc, hsm⟩ : _ ∧ _)
  clear h2 h hc hsm
  go_enter Try.func36, Try.ntmps36
  go_wp2_with fail
  go_loopw [1, 5] (fun s1 s5 wr => ∃ i : Nat, s5 = .int .i64 (i : Int) ∧ s1 = .int .i64 (k + (sm (mks 3 F) i : Int)) ∧ i ≤ n ∧ Hid (Kb 0 w wr)) (fun _ s5 _ => n - (intOf s5).toNat)
  case atStart => exact ⟨0, rfl, by simp [sm], Nat.zero_le _, Kb.refl _ _⟩
  case round =>
    obtain ⟨i, rfl, rfl, hin, HI⟩ := hrel
    have kw := (show Kb 0 w wr from HI)
    obtain ⟨hp, hcs, hmd, hcc, hsm⟩ := (show _ ∧ _ ∧ _ ∧ _ ∧ _ from HH)
    rcases Nat.lt_or_ge i n with hi | hi
    · have hiI : (i : Int) < (n : Int) := by omega
      obtain ⟨rfl, hcap⟩ := hp (by omega)
      have hmo := sm_mono (mks 3 F) (show i + 1 ≤ n from hi)
      have hsu : sm (mks 3 F) (i + 1) = sm (mks 3 F) i + (3 - 1 + (F i).c) := rfl
      have hci := hcc i hi
      have hm := hmd i hi
      obtain ⟨X, hX⟩ : ∃ X : Int, X = k + (sm (mks 3 F) i : Int) := ⟨_, rfl⟩
      rw [← hX] at hm
      have hx : X ≤ 90000000 := by omega
      have hx0 : 1 ≤ X := by omega
      have hx2 : ¬ (X + 1 + 1) + ((F i).c : Int) < 0 := by omega
      have d0 : wr.cell? ⟨g, i * 3, none⟩ = some (.bool (X % 3 == 0)) := by have := hcs i hi 0 (by omega); dsimp only at this; rw [← hX] at this; exact kw.cell this
      have d1 : wr.cell? ⟨g, i * 3 + 1, none⟩ = some (.int .i64 (X + 1)) := by have := hcs i hi 1 (by omega); dsimp only at this; rw [← hX] at this; exact kw.cell this
      have d2 : wr.cell? ⟨g, i * 3 + 2, none⟩ = some (V i) := by have := hcs i hi 2 (by omega); dsimp only at this; rw [← hX] at this; exact kw.cell this
      have hrem : Int.tmod X 3 = X % 3 := Int.tmod_eq_emod_of_nonneg (by omega)
      obtain ⟨bx, hbx⟩ : ∃ bx : Bool, bx = (X % 3 == 0) := ⟨_, rfl⟩
      rw [← hbx] at d0
      have hbn : (bx != bx) = false := by cases bx <;> rfl
      have hbe : (Int.tmod X 3 == 0) = bx := by rw [hrem, hbx]
      have hne : (X + 1 != X + 1) = false := by simp
      have e : X + ((3 - 1 : Nat) : Int) = (X + 1 + 1) := by omega
      rw [e] at hm
      have hm2 : OwnR wr (V i) (G i) (F i).c (fun j => .int .u8 (((X + 1 + 1) + (j : Int)) % 256)) := hm.kb (fun hne => kw.block _ (Nat.zero_le _) (lt_of_cell (hm.cell 0 (by omega))))
      have HMV := held_byts wr (X + 1 + 1) hm2.row hci (by omega) (by omega)
      obtain ⟨pv, cv, hV, _⟩ := hm.sl
      rw [hV] at d2 HMV
      have HKN : Hid ((X + 1 + 1) + ((F i).c : Int) = k + (sm (mks 3 F) (i + 1) : Int)) := (by rw [hsu, hX]; push_cast; omega : (X + 1 + 1) + ((F i).c : Int) = k + (sm (mks 3 F) (i + 1) : Int))
      rw [← hX]
      clear hp hcs hmd hcc hsm hmo hsu hX hm hm2 hV HH hcap e
      go_wp2_with fail
      refine HMV.mono ?_
      rintro e w6 ⟨rfl, d6, hw6⟩
      have HN : Hid (Kb 0 w w6) := by rw [hw6]; exact kw.drewN d6
      clear hw6 kw HMV d0 d1 d2 HI
      go_wp2_with fail
      go_roundw
      case rel => exact ⟨i + 1, by go_num, by rw [← (show _ = _ from HKN)], by omega, HN⟩
      case measure => simp [intOf]; omega
    · obtain rfl : i = n := by omega
      have hI' : ¬ (i : Int) < (i : Int) := by omega
      clear HH hi hin kw hp hcs hmd hcc hsm
      go_wp2_with fail
      go_ret
      exact ⟨rfl, HI⟩
end Go.Proofs.Ytaggciimacanbaa.Fo
