import Derived.Test.YtdgainfmidoemaaMGba
namespace Go.Proofs.Ytdgainfmidoemaa.Fo
open Go.ChangeShapes Go.WideShapes Go.ChangeAt Go.RowKit
set_option linter.unusedVariables false
set_option maxRecDepth 100000
/-- the sum of the first i -/
def sm (s : Nat → Nat) : Nat → Nat
  | 0 => 0
  | i + 1 => sm s i + s i
theorem sm_mono (s : Nat → Nat) {i n : Nat} (h : i ≤ n) : sm s i ≤ sm s n := by
  induction n with
  | zero => obtain rfl : i = 0 := by omega
            exact Nat.le_refl _
  | succ n ih =>
    by_cases e : i = n + 1
    · subst e; exact Nat.le_refl _
    · have := ih (by omega)
      show _ ≤ sm s n + s n
      omega
theorem sm_one (s : Nat → Nat) {i n : Nat} (h : i < n) : s i ≤ sm s n := by
  have := sm_mono s (show i + 1 ≤ n from h)
  have e : sm s (i + 1) = sm s i + s i := rfl
  omega
/-- what a measuring answers -/
def Szd (s : Nat) (l : Int) (W : World) : Ending → World → Prop := fun e w' => ∃ r : Int, e = .returned (.int .i64 r) ∧ (0 ≤ r → r + (s : Int) ≤ l) ∧ -1 ≤ r ∧ r ≤ l ∧ Kb 0 W w'
set_option maxHeartbeats 4000000 in
theorem sz_val {a : Gv} (w : World) (l : Int) (hx : (a.x.size : Int) < 140737488355328) (hl0 : 0 ≤ l) (hl : l ≤ 1048576) :
    Calls Try.prog 33 #[gvv a, .int .i64 l] w (Szd a.x.size l w) := by
  unfold gvv
  have hs0 : (0 : Int) ≤ (a.x.size : Int) := Int.natCast_nonneg _
  generalize hX : a.x.size = X at *
  go_enter Try.func33, Try.ntmps33
  rcases Int.lt_or_le (l - (X : Int)) 0 with c | c
  · go_wp2_with fail
    go_ret
    exact ⟨-1, rfl, fun h => by omega, by omega, by omega, kb_alloc _ _ _⟩
  · have c' : ¬ (l - (X : Int) < 0) := by omega
    go_wp2_with fail
    go_ret
    exact ⟨l - (X : Int), rfl, fun h => by omega, by omega, by omega, kb_alloc _ _ _⟩
set_option maxHeartbeats 4000000 in
theorem szr_vals {pa : Option Addr} {n ca : Nat} {C : Nat → Gv} {s : Nat → Nat} (w : World) (l : Int) (hn : (n : Int) < 140737488355328)
    (ha : 0 < n → ∃ a : Addr, pa = some a ∧ n ≤ ca ∧ ∀ i, i < n → CelV w (a.add (i * 4)) (C i))
    (he : ∀ i, i < n → ∀ W (l : Int), Kb 0 w W → 0 ≤ l → l ≤ 1048576 → Calls Try.prog 33 #[gvv (C i), .int .i64 l] W (Szd (s i) l W)) (hl0 : 0 ≤ l) (hl : l ≤ 1048576) :
    Calls Try.prog 85 #[.slice pa n ca, .int .i64 l] w (Szd (n + sm s n) l w) := by
  have HA : Hid ((0 < n → ∃ a : Addr, pa = some a ∧ n ≤ ca ∧ ∀ i, i < n → CelV w (a.add (i * 4)) (C i)) ∧ ∀ i, i < n → ∀ W (l : Int), Kb 0 w W → 0 ≤ l → l ≤ 1048576 → Calls Try.prog 33 #[gvv (C i), .int .i64 l] W (Szd (s i) l W)) := (⟨ha, he⟩ : _ ∧ _)
  clear ha he
  go_enter Try.func85, Try.ntmps85
  rcases Int.lt_or_le (l - n) 0 with h | h
  · clear HA
    go_wp2_with fail
    go_ret
    exact ⟨-1, rfl, fun f => by omega, by omega, by omega, Kb.refl _ _⟩
  · have h' : ¬ (l - n < 0) := by omega
    go_wp2_with fail
    go_loopw [1, 5] (fun s1 s5 wr => ∃ (i : Nat) (x : Int), s1 = .int .i64 x ∧ s5 = .int .i64 (i : Int) ∧ i ≤ n ∧ 0 ≤ x ∧ x ≤ l ∧ Hid (x + (n : Int) + (sm s i : Int) ≤ l ∧ Kb 0 w wr)) (fun _ s5 _ => n - (intOf s5).toNat)
    case atStart => exact ⟨0, l - n, rfl, rfl, Nat.zero_le _, by omega, by omega, (⟨by show l - n + n + ((0 : Nat) : Int) ≤ l; omega, Kb.refl _ _⟩ : _ ∧ _)⟩
    case round =>
      obtain ⟨i, x, rfl, rfl, hin, hx0, hx1, HX⟩ := hrel
      rcases Nat.lt_or_ge i n with hi | hi
      · have hA := (show (0 < n → ∃ a : Addr, pa = some a ∧ n ≤ ca ∧ ∀ i, i < n → CelV w (a.add (i * 4)) (C i)) ∧ ∀ i, i < n → ∀ W (l : Int), Kb 0 w W → 0 ≤ l → l ≤ 1048576 → Calls Try.prog 33 #[gvv (C i), .int .i64 l] W (Szd (s i) l W) from HA)
        have hX := (show x + (n : Int) + (sm s i : Int) ≤ l ∧ Kb 0 w wr from HX)
        obtain ⟨a, rfl, hca, hra⟩ := hA.1 (by omega)
        obtain ⟨d0, d1, d2, d3⟩ := (hra i hi).keep (Nat.zero_le _) hX.2
        have HS : Hid (Calls Try.prog 33 #[gvv (C i), .int .i64 x] wr (Szd (s i) x wr)) := hA.2 i hi wr x hX.2 hx0 (by omega)
        have hiI : (i : Int) < (n : Int) := by omega
        clear hA hX hra HA hin
        go_wp2_with fail
        refine (show Calls Try.prog 33 #[gvv (C i), .int .i64 x] wr (Szd (s i) x wr) from HS).mono ?_
        rintro e w6 ⟨r, rfl, hs, hm1, hr1, hb6⟩
        have hX := (show x + (n : Int) + (sm s i : Int) ≤ l ∧ Kb 0 w wr from HX)
        have HB6 : Hid ((0 ≤ r → r + (n : Int) + (sm s (i + 1) : Int) ≤ l) ∧ Kb 0 w w6) := (⟨fun h => by
          have := hs h
          have := hX.1
          show r + (n : Int) + ((sm s i + s i : Nat) : Int) ≤ l
          omega, hX.2.trans hb6⟩ : _ ∧ _)
        clear HS HX hX hb6 hs d0 d1 d2 d3
        rcases Int.lt_or_le r 0 with hr0 | hr0
        · go_wp2_with fail
          go_ret
          exact ⟨-1, rfl, fun f => by omega, by omega, by omega, HB6.2⟩
        · have hr0' : ¬ (r < 0) := by omega
          have hr2 : r ≤ l := by omega
          have hnI : (n : Int) ≤ 1048576 := by omega
          clear hn h h' hm1 hx0 hx1 hr1
          go_wp2_with fail
          go_roundw
          case rel => exact ⟨i + 1, r, rfl, by go_num, by omega, hr0, hr2, (⟨HB6.1 hr0, HB6.2⟩ : _ ∧ _)⟩
          case measure => simp [intOf]; omega
      · obtain rfl : i = n := by omega
        clear HA
        go_wp2_with fail
        go_ret
        have hX := (show x + (i : Int) + (sm s i : Int) ≤ l ∧ Kb 0 w wr from HX)
        exact ⟨x, rfl, fun _ => by have := hX.1; omega, by omega, hx1, hX.2⟩
theorem szd_vals {va : Value} {n : Nat} {A : Nat → Gv} (w : World) (l : Int) (ha : RowW 0 w va n A) (hn : (n : Int) < 140737488355328) (hA : ∀ i, i < n → ((A i).x.size : Int) < 140737488355328) (hl0 : 0 ≤ l) (hl : l ≤ 1048576) :
    Calls Try.prog 85 #[va, .int .i64 l] w (Szd (n + sm (fun i => (A i).x.size) n) l w) := by
  obtain ⟨pa, ca, rfl, ha2⟩ := ha
  refine szr_vals w l hn (fun h0 => ?_) (fun i hi W l k l0 l1 => sz_val W l (hA i hi) l0 l1) hl0 hl
  obtain ⟨a, e1, e2, -, e3⟩ := ha2 h0
  exact ⟨a, e1, e2, e3⟩
set_option maxHeartbeats 4000000 in
theorem sz_thing {f : Td} {vc : Value} {z : Nat} (w : World) (l : Int) (g0 : ∀ W (l : Int), Kb 0 w W → 0 ≤ l → l ≤ 1048576 → Calls Try.prog 85 #[vc, .int .i64 l] W (Szd z l W)) (hl0 : 0 ≤ l) (hl : l ≤ 1048576) :
    Calls Try.prog 60 #[thv f vc, .int .i64 l] w (Szd z l w) := by
  unfold thv
  have G0 : Hid (∀ W (l : Int), Kb 0 w W → 0 ≤ l → l ≤ 1048576 → Calls Try.prog 85 #[vc, .int .i64 l] W (Szd z l W)) := g0
  clear g0
  go_enter Try.func60, Try.ntmps60
  go_wp2_with fail
  refine ((show ∀ W (l : Int), Kb 0 w W → 0 ≤ l → l ≤ 1048576 → Calls Try.prog 85 #[vc, .int .i64 l] W (Szd z l W) from G0) _ l (kb_alloc _ _ _) hl0 hl).mono ?_
  rintro e w1 ⟨r, rfl, s1, m1, t1, k1⟩
  have HK : Hid (Kb 0 w w1) := (kb_alloc _ _ _).trans k1
  clear k1 G0
  rcases Int.lt_or_le r 0 with c | c
  · go_wp2_with fail
    go_ret
    exact ⟨-1, rfl, fun h => by omega, by omega, by omega, HK⟩
  · have c' : ¬ r < 0 := by omega
    go_wp2_with fail
    go_ret
    exact ⟨r, rfl, s1, by omega, t1, HK⟩
set_option maxHeartbeats 4000000 in
theorem szr_things {pa : Option Addr} {n ca : Nat} {F : Nat → Td} {vc : Nat → Value} {s : Nat → Nat} (w : World) (l : Int) (hn : (n : Int) < 140737488355328)
    (ha : 0 < n → ∃ a : Addr, pa = some a ∧ n ≤ ca ∧ ∀ i, i < n → CelT w (a.add (i * 2)) (F i) (vc i))
    (he : ∀ i, i < n → ∀ W (l : Int), Kb 0 w W → 0 ≤ l → l ≤ 1048576 → Calls Try.prog 60 #[thv (F i) (vc i), .int .i64 l] W (Szd (s i) l W)) (hl0 : 0 ≤ l) (hl : l ≤ 1048576) :
    Calls Try.prog 34 #[.slice pa n ca, .int .i64 l] w (Szd (n + sm s n) l w) := by
  have HA : Hid ((0 < n → ∃ a : Addr, pa = some a ∧ n ≤ ca ∧ ∀ i, i < n → CelT w (a.add (i * 2)) (F i) (vc i)) ∧ ∀ i, i < n → ∀ W (l : Int), Kb 0 w W → 0 ≤ l → l ≤ 1048576 → Calls Try.prog 60 #[thv (F i) (vc i), .int .i64 l] W (Szd (s i) l W)) := (⟨ha, he⟩ : _ ∧ _)
  clear ha he
  go_enter Try.func34, Try.ntmps34
  rcases Int.lt_or_le (l - n) 0 with h | h
  · clear HA
    go_wp2_with fail
    go_ret
    exact ⟨-1, rfl, fun f => by omega, by omega, by omega, Kb.refl _ _⟩
  · have h' : ¬ (l - n < 0) := by omega
    go_wp2_with fail
    go_loopw [1, 5] (fun s1 s5 wr => ∃ (i : Nat) (x : Int), s1 = .int .i64 x ∧ s5 = .int .i64 (i : Int) ∧ i ≤ n ∧ 0 ≤ x ∧ x ≤ l ∧ Hid (x + (n : Int) + (sm s i : Int) ≤ l ∧ Kb 0 w wr)) (fun _ s5 _ => n - (intOf s5).toNat)
    case atStart => exact ⟨0, l - n, rfl, rfl, Nat.zero_le _, by omega, by omega, (⟨by show l - n + n + ((0 : Nat) : Int) ≤ l; omega, Kb.refl _ _⟩ : _ ∧ _)⟩
    case round =>
      obtain ⟨i, x, rfl, rfl, hin, hx0, hx1, HX⟩ := hrel
      rcases Nat.lt_or_ge i n with hi | hi
      · have hA := (show (0 < n → ∃ a : Addr, pa = some a ∧ n ≤ ca ∧ ∀ i, i < n → CelT w (a.add (i * 2)) (F i) (vc i)) ∧ ∀ i, i < n → ∀ W (l : Int), Kb 0 w W → 0 ≤ l → l ≤ 1048576 → Calls Try.prog 60 #[thv (F i) (vc i), .int .i64 l] W (Szd (s i) l W) from HA)
        have hX := (show x + (n : Int) + (sm s i : Int) ≤ l ∧ Kb 0 w wr from HX)
        obtain ⟨a, rfl, hca, hra⟩ := hA.1 (by omega)
        obtain ⟨d0, d1⟩ := (hra i hi).keep (Nat.zero_le _) hX.2
        have HS : Hid (Calls Try.prog 60 #[thv (F i) (vc i), .int .i64 x] wr (Szd (s i) x wr)) := hA.2 i hi wr x hX.2 hx0 (by omega)
        have hiI : (i : Int) < (n : Int) := by omega
        clear hA hX hra HA hin
        go_wp2_with fail
        refine (show Calls Try.prog 60 #[thv (F i) (vc i), .int .i64 x] wr (Szd (s i) x wr) from HS).mono ?_
        rintro e w6 ⟨r, rfl, hs, hm1, hr1, hb6⟩
        have hX := (show x + (n : Int) + (sm s i : Int) ≤ l ∧ Kb 0 w wr from HX)
        have HB6 : Hid ((0 ≤ r → r + (n : Int) + (sm s (i + 1) : Int) ≤ l) ∧ Kb 0 w w6) := (⟨fun h => by
          have := hs h
          have := hX.1
          show r + (n : Int) + ((sm s i + s i : Nat) : Int) ≤ l
          omega, hX.2.trans hb6⟩ : _ ∧ _)
        clear HS HX hX hb6 hs d0 d1
        rcases Int.lt_or_le r 0 with hr0 | hr0
        · go_wp2_with fail
          go_ret
          exact ⟨-1, rfl, fun f => by omega, by omega, by omega, HB6.2⟩
        · have hr0' : ¬ (r < 0) := by omega
          have hr2 : r ≤ l := by omega
          have hnI : (n : Int) ≤ 1048576 := by omega
          clear hn h h' hm1 hx0 hx1 hr1
          go_wp2_with fail
          go_roundw
          case rel => exact ⟨i + 1, r, rfl, by go_num, by omega, hr0, hr2, (⟨HB6.1 hr0, HB6.2⟩ : _ ∧ _)⟩
          case measure => simp [intOf]; omega
      · obtain rfl : i = n := by omega
        clear HA
        go_wp2_with fail
        go_ret
        have hX := (show x + (i : Int) + (sm s i : Int) ≤ l ∧ Kb 0 w wr from HX)
        exact ⟨x, rfl, fun _ => by have := hX.1; omega, by omega, hx1, hX.2⟩
/-- the size of a thing -/
def szT (F : Nat → Td) (i : Nat) : Nat := (F i).c + sm (fun j => ((F i).C j).x.size) (F i).c
def BT (F : Nat → Td) (n : Nat) : Prop := ∀ i, i < n → ((F i).c : Int) < 140737488355328 ∧ ∀ j, j < (F i).c → (((F i).C j).x.size : Int) < 140737488355328
theorem choose_fn {α : Type} [inst : Inhabited α] {n : Nat} {p : Nat → α → Prop} (h : ∀ i, i < n → ∃ a, p i a) : ∃ f : Nat → α, ∀ i, i < n → p i (f i) := by
  refine ⟨fun i => if h' : i < n then (h i h').choose else default, fun i hi => ?_⟩
  simp only [hi, dif_pos]
  exact (h i hi).choose_spec
theorem szd_things {va : Value} {n : Nat} {F : Nat → Td} (w : World) (l : Int) (ha : RowT 0 w va n F) (hn : (n : Int) < 140737488355328) (hF : BT F n) (hl0 : 0 ≤ l) (hl : l ≤ 1048576) :
    Calls Try.prog 34 #[va, .int .i64 l] w (Szd (n + sm (szT F) n) l w) := by
  obtain ⟨pa, ca, rfl, ha2⟩ := ha
  by_cases h0 : 0 < n
  · obtain ⟨a, e1, e2, -, e3⟩ := ha2 h0
    obtain ⟨vc, hvc⟩ := choose_fn (α := Value) (inst := ⟨.slice none 0 0⟩) e3
    exact szr_things (vc := vc) w l hn (fun _ => ⟨a, e1, e2, fun i hi => (hvc i hi).1⟩) (fun i hi W l k l0 l1 => sz_thing W l (fun W' l' k' q0 q1 => szd_vals W' l' ((hvc i hi).2.keep (k.trans k')) (hF i hi).1 (hF i hi).2 q0 q1) l0 l1) hl0 hl
  · exact szr_things (F := F) (vc := fun _ => .slice none 0 0) w l hn (fun h => absurd h h0) (fun i hi => absurd (Nat.zero_lt_of_lt hi) h0) hl0 hl
end Go.Proofs.Ytdgainfmidoemaa.Fo
