import Derived.Test.YtbbjbojjglhgmaaMDaa
namespace Go.Proofs.Ytbbjbojjglhgmaa.Fo
open Go.ChangeShapes Go.WideShapes Go.ChangeAt Go.RowKit
set_option linter.unusedVariables false
set_option maxRecDepth 100000
set_option maxHeartbeats 4000000 in
theorem sz_byts {va : Value} {n : Nat} {A : Nat → Value} (w : World) (l : Int) (ha : RowB 0 w va n A) (hn : (n : Int) < 140737488355328) (hl0 : 0 ≤ l) (hl : l ≤ 1048576) :
    Calls Try.prog 140 #[va, .int .i64 l] w (Szd n l w) := by
  obtain ⟨pa, ca, rfl, -⟩ := ha
  go_enter Try.func140, Try.ntmps140
  rcases Int.lt_or_le (l - n) 0 with h | h
  · go_wp2_with fail
    go_ret
    exact ⟨-1, rfl, by omega, by omega, by omega, Kb.refl _ _⟩
  · have h' : ¬ (l - n < 0) := by omega
    go_wp2_with fail
    go_ret
    exact ⟨_, rfl, by omega, by omega, by omega, Kb.refl _ _⟩
theorem eq_bytsK {va vb : Value} {n : Nat} {A : Nat → Int} (w : World) (ha : RowB 0 w va n (ub A)) (hb : RowB 0 w vb n (ub A)) (hn : n ≤ 1048576) :
    Calls Try.prog 19 #[va, vb] w fun e w' => e = .returned (.bool true) ∧ Kb 0 w w' := (eq_byts w ha.row hb.row hn).mono (fun e w' ⟨h1, h2⟩ => ⟨h1, kb_drewN h2⟩)
set_option maxHeartbeats 4000000 in
theorem sz_row1 {va : Value} {n : Nat} {F : Nat → Ed} (w : World) (l : Int) (ha : RowE 1 0 w va n F) (hn : (n : Int) < 140737488355328) (hF : ∀ i, i < n → ((F i).c : Int) < 140737488355328) (hl0 : 0 ≤ l) (hl : l ≤ 1048576) :
    Calls Try.prog 83 #[va, .int .i64 l] w (Szd (n + sm (fun i => (F i).c) n) l w) := by
  obtain ⟨pa, ca, rfl, ha2⟩ := ha
  have HA : Hid ((0 < n → ∃ a : Addr, pa = some a ∧ n ≤ ca ∧ 0 ≤ a.block ∧ ∀ i, i < n → ElC 1 0 w (a.add (i * 1)) (F i)) ∧ ∀ i, i < n → ((F i).c : Int) < 140737488355328) := (⟨ha2, hF⟩ : _ ∧ _)
  clear ha2 hF
  go_enter Try.func83, Try.ntmps83
  rcases Int.lt_or_le (l - n) 0 with h | h
  · clear HA
    go_wp2_with fail
    go_ret
    exact ⟨-1, rfl, fun f => by omega, by omega, by omega, Kb.refl _ _⟩
  · have h' : ¬ (l - n < 0) := by omega
    go_wp2_with fail
    go_loopw [1, 5] (fun s1 s5 wr => ∃ (i : Nat) (x : Int), s1 = .int .i64 x ∧ s5 = .int .i64 (i : Int) ∧ i ≤ n ∧ 0 ≤ x ∧ x ≤ l ∧ Hid (x + (n : Int) + (sm (fun i => (F i).c) i : Int) ≤ l ∧ Kb 0 w wr)) (fun _ s5 _ => n - (intOf s5).toNat)
    case atStart => exact ⟨0, l - n, rfl, rfl, Nat.zero_le _, by omega, by omega, (⟨by show l - n + n + ((0 : Nat) : Int) ≤ l; omega, Kb.refl _ _⟩ : _ ∧ _)⟩
    case round =>
      obtain ⟨i, x, rfl, rfl, hin, hx0, hx1, HX⟩ := hrel
      rcases Nat.lt_or_ge i n with hi | hi
      · have hA := (show (0 < n → ∃ a : Addr, pa = some a ∧ n ≤ ca ∧ 0 ≤ a.block ∧ ∀ i, i < n → ElC 1 0 w (a.add (i * 1)) (F i)) ∧ ∀ i, i < n → ((F i).c : Int) < 140737488355328 from HA)
        have hX := (show x + (n : Int) + (sm (fun i => (F i).c) i : Int) ≤ l ∧ Kb 0 w wr from HX)
        obtain ⟨a, rfl, hca, -, hra⟩ := hA.1 (by omega)
        obtain ⟨v, h0, ht, hr⟩ := (hra i hi).keep (.inl rfl) (Nat.zero_le _) hX.2
        have hX3 := hA.2 i hi
        obtain ⟨p0, c0, rfl, -⟩ := id hr
        have HS : Hid (Calls Try.prog 140 #[.slice p0 (F i).c c0, .int .i64 x] wr (Szd (F i).c x wr)) := sz_byts wr x hr hX3 hx0 (by omega)
        have d0 : wr.cell? (a.add i) = some (.slice p0 (F i).c c0) := by have := h0; rw [Nat.mul_one] at this; exact this
        have hiI : (i : Int) < (n : Int) := by omega
        clear hA hX hra HA hin h0 ht hr hX3
        go_wp2_with fail
        refine (show Calls Try.prog 140 #[.slice p0 (F i).c c0, .int .i64 x] wr (Szd (F i).c x wr) from HS).mono ?_
        rintro e w6 ⟨r, rfl, hs, hm1, hr1, hb6⟩
        have hX := (show x + (n : Int) + (sm (fun i => (F i).c) i : Int) ≤ l ∧ Kb 0 w wr from HX)
        have HB6 : Hid ((0 ≤ r → r + (n : Int) + (sm (fun i => (F i).c) (i + 1) : Int) ≤ l) ∧ Kb 0 w w6) := (⟨fun h => by
          have := hs h
          have := hX.1
          show r + (n : Int) + ((sm (fun i => (F i).c) i + (F i).c : Nat) : Int) ≤ l
          omega, hX.2.trans hb6⟩ : _ ∧ _)
        clear HS HX hX hb6 hs d0
        rcases Int.lt_or_le r 0 with hr0 | hr0
        · go_wp2_with fail
          go_ret
          exact ⟨-1, rfl, fun f => by omega, by omega, by omega, HB6.2⟩
        · have hr0' : ¬ (r < 0) := by omega
          have hr2 : r ≤ l := by omega
          have hnI : (n : Int) ≤ 1048576 := by omega
          clear hn h h' hm1 hx0 hx1 hr1
          go_wp2_with fail
          go_roundw
          case rel => exact ⟨i + 1, r, rfl, by go_num, by omega, hr0, hr2, (⟨HB6.1 hr0, HB6.2⟩ : _ ∧ _)⟩
          case measure => simp [intOf]; omega
      · obtain rfl : i = n := by omega
        clear HA
        go_wp2_with fail
        go_ret
        have hX := (show x + (i : Int) + (sm (fun i => (F i).c) i : Int) ≤ l ∧ Kb 0 w wr from HX)
        exact ⟨x, rfl, fun _ => by have := hX.1; omega, by omega, hx1, hX.2⟩
set_option maxHeartbeats 4000000 in
theorem sz_el2 {f : Ed} {vc : Value} {z : Nat} (w : World) (l : Int) (g0 : ∀ W (l : Int), Kb 0 w W → 0 ≤ l → l ≤ 1048576 → Calls Try.prog 140 #[vc, .int .i64 l] W (Szd z l W)) (hl0 : 0 ≤ l) (hl : l ≤ 1048576) :
    Calls Try.prog 141 #[.agg #[.int .i64 f.b, vc], .int .i64 l] w (Szd z l w) := by
  have G0 : Hid (∀ W (l : Int), Kb 0 w W → 0 ≤ l → l ≤ 1048576 → Calls Try.prog 140 #[vc, .int .i64 l] W (Szd z l W)) := g0
  clear g0
  go_enter Try.func141, Try.ntmps141
  go_wp2_with fail
  refine ((show ∀ W (l : Int), Kb 0 w W → 0 ≤ l → l ≤ 1048576 → Calls Try.prog 140 #[vc, .int .i64 l] W (Szd z l W) from G0) _ l (kb_alloc _ _ _) hl0 hl).mono ?_
  rintro e w1 ⟨r, rfl, s1, m1, t1, k1⟩
  have HK : Hid (Kb 0 w w1) := (kb_alloc _ _ _).trans k1
  clear k1 G0
  rcases Int.lt_or_le r 0 with c | c
  · go_wp2_with fail
    go_ret
    exact ⟨-1, rfl, fun h => by omega, by omega, by omega, HK⟩
  · have c' : ¬ r < 0 := by omega
    go_wp2_with fail
    go_ret
    exact ⟨r, rfl, s1, by omega, t1, HK⟩
set_option maxHeartbeats 4000000 in
theorem sz_row2 {va : Value} {n : Nat} {F : Nat → Ed} (w : World) (l : Int) (ha : RowE 2 0 w va n F) (hn : (n : Int) < 140737488355328) (hF : ∀ i, i < n → ((F i).c : Int) < 140737488355328) (hl0 : 0 ≤ l) (hl : l ≤ 1048576) :
    Calls Try.prog 84 #[va, .int .i64 l] w (Szd (n + sm (fun i => (F i).c) n) l w) := by
  obtain ⟨pa, ca, rfl, ha2⟩ := ha
  have HA : Hid ((0 < n → ∃ a : Addr, pa = some a ∧ n ≤ ca ∧ 0 ≤ a.block ∧ ∀ i, i < n → ElC 2 0 w (a.add (i * 2)) (F i)) ∧ ∀ i, i < n → ((F i).c : Int) < 140737488355328) := (⟨ha2, hF⟩ : _ ∧ _)
  clear ha2 hF
  go_enter Try.func84, Try.ntmps84
  rcases Int.lt_or_le (l - n) 0 with h | h
  · clear HA
    go_wp2_with fail
    go_ret
    exact ⟨-1, rfl, fun f => by omega, by omega, by omega, Kb.refl _ _⟩
  · have h' : ¬ (l - n < 0) := by omega
    go_wp2_with fail
    go_loopw [1, 5] (fun s1 s5 wr => ∃ (i : Nat) (x : Int), s1 = .int .i64 x ∧ s5 = .int .i64 (i : Int) ∧ i ≤ n ∧ 0 ≤ x ∧ x ≤ l ∧ Hid (x + (n : Int) + (sm (fun i => (F i).c) i : Int) ≤ l ∧ Kb 0 w wr)) (fun _ s5 _ => n - (intOf s5).toNat)
    case atStart => exact ⟨0, l - n, rfl, rfl, Nat.zero_le _, by omega, by omega, (⟨by show l - n + n + ((0 : Nat) : Int) ≤ l; omega, Kb.refl _ _⟩ : _ ∧ _)⟩
    case round =>
      obtain ⟨i, x, rfl, rfl, hin, hx0, hx1, HX⟩ := hrel
      rcases Nat.lt_or_ge i n with hi | hi
      · have hA := (show (0 < n → ∃ a : Addr, pa = some a ∧ n ≤ ca ∧ 0 ≤ a.block ∧ ∀ i, i < n → ElC 2 0 w (a.add (i * 2)) (F i)) ∧ ∀ i, i < n → ((F i).c : Int) < 140737488355328 from HA)
        have hX := (show x + (n : Int) + (sm (fun i => (F i).c) i : Int) ≤ l ∧ Kb 0 w wr from HX)
        obtain ⟨a, rfl, hca, -, hra⟩ := hA.1 (by omega)
        obtain ⟨v, h0, ht, hr⟩ := (hra i hi).keep (.inr (.inl rfl)) (Nat.zero_le _) hX.2
        have hX3 := hA.2 i hi
        obtain ⟨p0, c0, rfl, -⟩ := id hr
        have HS : Hid (Calls Try.prog 141 #[.agg #[.int .i64 (F i).b, .slice p0 (F i).c c0], .int .i64 x] wr (Szd (F i).c x wr)) := sz_el2 wr x (fun W l k q0 q1 => sz_byts W l (hr.keep k) hX3 q0 q1) hx0 (by omega)
        have d0 : wr.cell? (a.add (i * 2)) = some (.int .i64 (F i).b) := h0
        have d1 : wr.cell? ⟨(a.add (i * 2)).block, (a.add (i * 2)).off + 1, none⟩ = some (.slice p0 (F i).c c0) := ht 1 (by omega) (by omega)
        have hiI : (i : Int) < (n : Int) := by omega
        clear hA hX hra HA hin h0 ht hr hX3
        go_wp2_with fail
        refine (show Calls Try.prog 141 #[.agg #[.int .i64 (F i).b, .slice p0 (F i).c c0], .int .i64 x] wr (Szd (F i).c x wr) from HS).mono ?_
        rintro e w6 ⟨r, rfl, hs, hm1, hr1, hb6⟩
        have hX := (show x + (n : Int) + (sm (fun i => (F i).c) i : Int) ≤ l ∧ Kb 0 w wr from HX)
        have HB6 : Hid ((0 ≤ r → r + (n : Int) + (sm (fun i => (F i).c) (i + 1) : Int) ≤ l) ∧ Kb 0 w w6) := (⟨fun h => by
          have := hs h
          have := hX.1
          show r + (n : Int) + ((sm (fun i => (F i).c) i + (F i).c : Nat) : Int) ≤ l
          omega, hX.2.trans hb6⟩ : _ ∧ _)
        clear HS HX hX hb6 hs d0 d1
        rcases Int.lt_or_le r 0 with hr0 | hr0
        · go_wp2_with fail
          go_ret
          exact ⟨-1, rfl, fun f => by omega, by omega, by omega, HB6.2⟩
        · have hr0' : ¬ (r < 0) := by omega
          have hr2 : r ≤ l := by omega
          have hnI : (n : Int) ≤ 1048576 := by omega
          clear hn h h' hm1 hx0 hx1 hr1
          go_wp2_with fail
          go_roundw
          case rel => exact ⟨i + 1, r, rfl, by go_num, by omega, hr0, hr2, (⟨HB6.1 hr0, HB6.2⟩ : _ ∧ _)⟩
          case measure => simp [intOf]; omega
      · obtain rfl : i = n := by omega
        clear HA
        go_wp2_with fail
        go_ret
        have hX := (show x + (i : Int) + (sm (fun i => (F i).c) i : Int) ≤ l ∧ Kb 0 w wr from HX)
        exact ⟨x, rfl, fun _ => by have := hX.1; omega, by omega, hx1, hX.2⟩
end Go.Proofs.Ytbbjbojjglhgmaa.Fo
