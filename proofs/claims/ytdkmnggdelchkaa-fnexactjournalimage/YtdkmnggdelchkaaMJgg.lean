import Derived.Test.YtdkmnggdelchkaaMJgf
namespace Go.Proofs.Ytdkmnggdelchkaa.Fo
open Go.ChangeShapes Go.WideShapes Go.ChangeAt Go.RowKit
set_option linter.unusedVariables false
set_option maxRecDepth 100000
set_option maxHeartbeats 16000000 in
theorem sp_isj {J : Jd} {p1 p2 : Option Addr} {c1 c2 : Nat} (w : World) (hl : RowV w (.slice p1 J.n c1) J.n (fun i => .string (J.S i))) (hs : Js.RowW 0 w (.slice p2 J.m c2) J.m J.T) (hn : J.n ≤ 1048576) (hm : J.m ≤ 1048576) (hx : ∀ i, i < J.m → ((J.T i).x.size : Int) ≤ 9223372036854775807) :
    Calls Try.prog 22 #[.agg #[.slice p1 J.n c1, .int .i64 J.p, .int .i64 J.q, .slice p2 J.m c2]] w fun e w' => e = .returned (.bool (dc (Jok J))) ∧ Kb 0 w w' := by
  obtain ⟨n, S, p, q, m, T⟩ := J
  dsimp only at hl hs hn hm hx ⊢
  obtain ⟨_, _, e0, hl2⟩ := hl
  injection e0 with e1 e2 e3
  subst e1 e3
  obtain ⟨_, _, e0, hs2⟩ := hs
  injection e0 with e1 e2 e3
  subst e1 e3
  obtain ⟨w0, hw0⟩ : ∃ w0, w0 = w.alloc (.cells #[.slice p1 n c1, .int .i64 p, .int .i64 q, .slice p2 m c2] 31) := ⟨_, rfl⟩
  have k0 : Kb 0 w w0 := by rw [hw0]; exact kb_alloc _ _ _
  have b0 : w0.heap[w.heap.size]? = some (.cells #[.slice p1 n c1, .int .i64 p, .int .i64 q, .slice p2 m c2] 31 (0, 0)) := by rw [hw0]; exact alloc_new _ _ _
  obtain ⟨z, hz⟩ : ∃ z, z = dc (Jok ⟨n, S, p, q, m, T⟩) := ⟨_, rfl⟩
  rw [← hz]
  have HZ : Hid (z = dc (Jok ⟨n, S, p, q, m, T⟩)) := hz
  have c0 : w0.cell? ⟨w.heap.size, 0, none⟩ = some (.slice p1 n c1) := cell_of b0 rfl
  have c1' : w0.cell? ⟨w.heap.size, 1, none⟩ = some (.int .i64 p) := cell_of b0 rfl
  have c2' : w0.cell? ⟨w.heap.size, 2, none⟩ = some (.int .i64 q) := cell_of b0 rfl
  have c3 : w0.cell? ⟨w.heap.size, 3, none⟩ = some (.slice p2 m c2) := cell_of b0 rfl
  have hnI : (n : Int) ≤ 1048576 := by omega
  have hmI : (m : Int) ≤ 1048576 := by omega
  have HW0 : Hid (w0 = w.alloc (.cells #[.slice p1 n c1, .int .i64 p, .int .i64 q, .slice p2 m c2] 31)) := hw0
  have HK : Hid (Kb 0 w w0) := k0
  have HA : Hid (0 < n → ∃ a : Addr, p1 = some a ∧ n ≤ c1 ∧ ∀ i, i < n → w0.cell? (a.add i) = some (.string (S i))) := (fun h => by obtain ⟨a, x1, x2, x3⟩ := hl2 h; exact ⟨a, x1, x2, fun i hi => k0.cell (x3 i hi)⟩ : 0 < n → _)
  have HS : Hid ((0 < m → ∃ a : Addr, p2 = some a ∧ m ≤ c2 ∧ 0 ≤ a.block ∧ ∀ i, i < m → Js.ValC 0 w0 (a.add (i * 4)) (T i)) ∧ ∀ i, i < m → ((T i).x.size : Int) ≤ 9223372036854775807) := (⟨fun h => by obtain ⟨a, x1, x2, x4, x3⟩ := hs2 h; exact ⟨a, x1, x2, x4, fun i hi => (x3 i hi).keep (Nat.zero_le _) k0⟩, hx⟩ : _ ∧ _)
  clear hl2 hs2 hn hm hx hw0 k0 b0 hz
  by_cases h0 : n ≤ 200
  case neg =>
    obtain rfl : z = false := (show z = _ from HZ).trans (dc_f (fun h => h0 h.1))
    have g0 : (200 : Int) < (n : Int) := by omega
    clear HZ HA HS h0
    go_enter Try.func22, Try.ntmps22
    go_upto_region 1 with fail
    rw [← (show w0 = _ from HW0)]
    clear HW0
    go_wp2_with fail
    all_goals (go_ret; exact ⟨rfl, HK⟩)
  have g0 : ¬ ((200 : Int) < (n : Int)) := by omega
  by_cases h1 : m ≤ 20
  case neg =>
    obtain rfl : z = false := (show z = _ from HZ).trans (dc_f (fun h => h1 h.2.1))
    have g1 : (20 : Int) < (m : Int) := by omega
    clear HZ HA HS h0 h1
    go_enter Try.func22, Try.ntmps22
    go_upto_region 1 with fail
    rw [← (show w0 = _ from HW0)]
    clear HW0
    go_wp2_with fail
    all_goals (go_ret; exact ⟨rfl, HK⟩)
  have g1 : ¬ ((20 : Int) < (m : Int)) := by omega
  by_cases h2 : -1 ≤ p
  case neg =>
    obtain rfl : z = false := (show z = _ from HZ).trans (dc_f (fun h => h2 h.2.2.1.1))
    have g2 : p < -1 := by omega
    clear HZ HA HS h0 h1 h2
    go_enter Try.func22, Try.ntmps22
    go_upto_region 1 with fail
    rw [← (show w0 = _ from HW0)]
    clear HW0
    go_wp2_with fail
    all_goals (go_ret; exact ⟨rfl, HK⟩)
  have g2 : ¬ (p < -1) := by omega
  by_cases h3 : p ≤ 100000
  case neg =>
    obtain rfl : z = false := (show z = _ from HZ).trans (dc_f (fun h => h3 h.2.2.1.2))
    have g3 : (100000 : Int) < p := by omega
    clear HZ HA HS h0 h1 h2 h3
    go_enter Try.func22, Try.ntmps22
    go_upto_region 1 with fail
    rw [← (show w0 = _ from HW0)]
    clear HW0
    go_wp2_with fail
    all_goals (go_ret; exact ⟨rfl, HK⟩)
  have g3 : ¬ ((100000 : Int) < p) := by omega
  by_cases h4 : 0 ≤ q
  case neg =>
    obtain rfl : z = false := (show z = _ from HZ).trans (dc_f (fun h => h4 h.2.2.2.1.1))
    have g4 : q < 0 := by omega
    clear HZ HA HS h0 h1 h2 h3 h4
    go_enter Try.func22, Try.ntmps22
    go_upto_region 1 with fail
    rw [← (show w0 = _ from HW0)]
    clear HW0
    go_wp2_with fail
    all_goals (go_ret; exact ⟨rfl, HK⟩)
  have g4 : ¬ (q < 0) := by omega
  by_cases h5 : q ≤ 1000
  case neg =>
    obtain rfl : z = false := (show z = _ from HZ).trans (dc_f (fun h => h5 h.2.2.2.1.2))
    have g5 : (1000 : Int) < q := by omega
    clear HZ HA HS h0 h1 h2 h3 h4 h5
    go_enter Try.func22, Try.ntmps22
    go_upto_region 1 with fail
    rw [← (show w0 = _ from HW0)]
    clear HW0
    go_wp2_with fail
    all_goals (go_ret; exact ⟨rfl, HK⟩)
  have g5 : ¬ ((1000 : Int) < q) := by omega
  have HQ : Hid (n ≤ 200 ∧ m ≤ 20 ∧ (-1 ≤ p ∧ p ≤ 100000) ∧ (0 ≤ q ∧ q ≤ 1000)) := (⟨h0, h1, ⟨h2, h3⟩, ⟨h4, h5⟩⟩ : _ ∧ _)
  clear h0 h1 h2 h3 h4 h5
  go_enter Try.func22, Try.ntmps22
  go_upto_region 1 with fail
  rw [← (show w0 = _ from HW0)]
  clear HW0
  go_wp2_with fail
  clear g0 g1 g2 g3 g4 g5
  go_loopw [40] (fun s wr => ∃ i : Nat, s = .int .i64 (i : Int) ∧ i ≤ n ∧ w0 = wr ∧ Hid (∀ j, j < i → (S j).size ≤ 4000)) (fun s _ => n - (intOf s).toNat)
  case atStart => exact ⟨0, rfl, Nat.zero_le _, rfl, (fun j hj => by omega : ∀ j, _)⟩
  case round =>
    obtain ⟨i, rfl, hin, rfl, HI⟩ := hrel
    have ha := (show ∀ j, j < i → (S j).size ≤ 4000 from HI)
    rcases Nat.lt_or_ge i n with hi | hi
    case inl =>
      have hiI : (i : Int) < (n : Int) := by omega
      obtain ⟨a, rfl, hca, hra⟩ := (show 0 < n → _ from HA) (by omega)
      have qa : w0.cell? (a.add i) = some (.string (S i)) := hra i hi
      by_cases hx : (S i).size ≤ 4000
      · have gx : ¬ (4000 : Int) < ((S i).size : Int) := by omega
        have HX : Hid (∀ j, j < i + 1 → (S j).size ≤ 4000) := (fun j hj => by
          by_cases e : j = i
          · rw [e]; exact hx
          · exact ha j (by omega) : ∀ j, _)
        clear HI ha hra hx HS HQ HZ HA c1' c2' c3
        generalize S i = x at *
        go_wp2_with fail
        go_roundw
        case rel => exact ⟨i + 1, by go_num, by omega, by trivial, HX⟩
        case measure => simp [intOf]; omega
      · obtain rfl : z = false := (show z = _ from HZ).trans (dc_f (fun h => hx (h.2.2.2.2.1 i hi)))
        have gx : (4000 : Int) < ((S i).size : Int) := by omega
        clear HI ha hra hx HS HQ HZ HA c1' c2' c3
        generalize S i = x at *
        go_wp2_with fail
        go_ret
        exact ⟨rfl, HK⟩
    obtain rfl : i = n := by omega
    have hI1 : ¬ (i : Int) < (i : Int) := by omega
    have HLN : Hid (∀ j, j < i → (S j).size ≤ 4000) := ha
    clear HI ha HA c1' c2'
    go_wp2_with fail
    clear c3
    obtain ⟨n, rfl⟩ : ∃ n, n = i := ⟨_, rfl⟩
    go_loopw [51] (fun s wr => ∃ i : Nat, s = .int .i64 (i : Int) ∧ i ≤ m ∧ Hid (Kb 0 w0 wr ∧ ∀ j, j < i → StP (T j).k (T j).m (T j).r (T j).x.size)) (fun s _ => m - (intOf s).toNat)
    case atStart => exact ⟨0, rfl, Nat.zero_le _, (⟨Kb.refl _ _, fun j hj => by omega⟩ : _ ∧ _)⟩
    case round =>
      obtain ⟨i, rfl, hin, HI⟩ := hrel
      obtain ⟨kw, ha⟩ := (show Kb 0 w0 wr ∧ ∀ j, j < i → StP (T j).k (T j).m (T j).r (T j).x.size from HI)
      rcases Nat.lt_or_ge i m with hi | hi
      case inl =>
        have hiI : (i : Int) < (m : Int) := by omega
        obtain ⟨hs2, hxs⟩ := (show (0 < m → ∃ a : Addr, p2 = some a ∧ m ≤ c2 ∧ 0 ≤ a.block ∧ ∀ i, i < m → Js.ValC 0 w0 (a.add (i * 4)) (T i)) ∧ ∀ i, i < m → ((T i).x.size : Int) ≤ 9223372036854775807 from HS)
        obtain ⟨a, rfl, hca, -, hra⟩ := hs2 (by omega)
        obtain ⟨d0, d1, d2, d3⟩ := hra i hi
        replace d0 := kw.cell d0
        replace d1 := kw.cell d1
        replace d2 := kw.cell d2
        replace d3 := kw.cell d3
        obtain ⟨s, hs⟩ : ∃ s, s = T i := ⟨_, rfl⟩
        rw [← hs] at d0 d1 d2 d3
        obtain ⟨wX, hwX⟩ : ∃ wX, wX = wr.alloc (.cells #[.int .i64 s.k, .int .i64 s.m, .int .i64 s.r, .string s.x] 69) := ⟨_, rfl⟩
        have kX : Kb 0 wr wX := by rw [hwX]; exact kb_alloc _ _ _
        have bX : wX.heap[wr.heap.size]? = some (.cells #[.int .i64 s.k, .int .i64 s.m, .int .i64 s.r, .string s.x] 69 (0, 0)) := by rw [hwX]; exact alloc_new _ _ _
        have y0 : wX.cell? ⟨wr.heap.size, 0, none⟩ = some (.int .i64 s.k) := cell_of bX rfl
        have y1 : wX.cell? ⟨wr.heap.size, 1, none⟩ = some (.int .i64 s.m) := cell_of bX rfl
        have y2 : wX.cell? ⟨wr.heap.size, 2, none⟩ = some (.int .i64 s.r) := cell_of bX rfl
        have y3 : wX.cell? ⟨wr.heap.size, 3, none⟩ = some (.string s.x) := cell_of bX rfl
        have hcall := sp_stop (k := s.k) (f := s.m) (l := s.r) (s := s.x) wX (by rw [hs]; exact hxs i hi)
        have HWX : Hid (wX = wr.alloc (.cells #[.int .i64 s.k, .int .i64 s.m, .int .i64 s.r, .string s.x] 69)) := hwX
        by_cases hn : StP s.k s.m s.r s.x.size
        · rw [dc_t hn] at hcall
          have HX : Hid (∀ w', Kb 0 wX w' → Kb 0 w0 w' ∧ ∀ j, j < i + 1 → StP (T j).k (T j).m (T j).r (T j).x.size) := (fun w' k => ⟨(kw.trans kX).trans k, fun j hj => by
            by_cases e : j = i
            · rw [e, ← hs]; exact hn
            · exact ha j (by omega)⟩ : ∀ w', _)
          clear HI ha hra hn hs2 hxs kw hs hwX kX bX HQ HZ HS HLN
          go_upto_region 12 with fail
          rw [← (show wX = _ from HWX)]
          clear HWX d0 d1 d2 d3
          go_wp2_with fail
          refine hcall.mono ?_
          rintro e w' ⟨rfl, k'⟩
          have HY : Hid (Kb 0 w0 w' ∧ ∀ j, j < i + 1 → StP (T j).k (T j).m (T j).r (T j).x.size) := (show ∀ w', _ from HX) w' k'
          clear HX k' hcall y0 y1 y2 y3
          go_wp2_with fail
          go_roundw
          case rel => exact ⟨i + 1, by go_num, by omega, HY⟩
          case measure => simp [intOf]; omega
        · rw [dc_f hn] at hcall
          obtain rfl : z = false := (show z = _ from HZ).trans (dc_f (fun h => hn (by rw [hs]; exact h.2.2.2.2.2 i hi)))
          have HKW : Hid (Kb 0 w0 wX) := kw.trans kX
          clear HI ha hra hn hs2 hxs kw hs hwX kX bX HQ HZ HS HLN
          go_upto_region 12 with fail
          rw [← (show wX = _ from HWX)]
          clear HWX d0 d1 d2 d3
          go_wp2_with fail
          refine hcall.mono ?_
          rintro e w' ⟨rfl, k'⟩
          have HF : Hid (Kb 0 w w') := (show Kb 0 w w0 from HK).trans ((show Kb 0 w0 wX from HKW).trans k')
          clear hcall y0 y1 y2 y3 k'
          go_wp2_with fail
          go_ret
          exact ⟨rfl, HF⟩
      obtain rfl : i = m := by omega
      have hI2 : ¬ (i : Int) < (i : Int) := by omega
      obtain rfl : z = true := (show z = _ from HZ).trans (dc_t (by
        obtain ⟨q1, q2, q3, q4⟩ := (show _ ∧ _ ∧ _ ∧ _ from HQ)
        exact ⟨q1, q2, q3, q4, (show ∀ j, _ from HLN), ha⟩))
      have HF : Hid (Kb 0 w wr) := (show Kb 0 w w0 from HK).trans kw
      clear HS ha kw HI HZ HQ HLN
      go_wp2_with fail
      go_ret
      exact ⟨rfl, HF⟩
end Go.Proofs.Ytdkmnggdelchkaa.Fo
