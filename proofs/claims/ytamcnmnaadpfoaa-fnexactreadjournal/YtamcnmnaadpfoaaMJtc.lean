import Derived.Test.YtamcnmnaadpfoaaMGde
namespace Go.Proofs.Ytamcnmnaadpfoaa.Fo
open Go.ChangeShapes Go.WideShapes Go.ChangeAt Go.RowKit
set_option linter.unusedVariables false
set_option maxRecDepth 100000

/-- what a stop is by its table -/
def StP (k f l : Int) (n : Nat) : Prop := 0 ≤ f ∧ f < 300 ∧ ((k = 1 ∧ 1 ≤ l ∧ l ≤ 100000 ∧ n = 0) ∨ (k = 2 ∧ l = 0 ∧ n = 0) ∨ (k = 3 ∧ l = 0 ∧ 0 < n ∧ n ≤ 40) ∨ (k = 4 ∧ f = 0 ∧ l = 0 ∧ n = 0))
end Go.Proofs.Ytamcnmnaadpfoaa.Fo

namespace Go.Proofs.Ytamcnmnaadpfoaa.Fo
open Go.ChangeShapes Go.WideShapes Go.ChangeAt Go.RowKit
set_option linter.unusedVariables false
set_option maxRecDepth 100000

theorem se_t {s : ByteArray} (h : s.size = 0) : s = { data := #[] } := by
  obtain ⟨⟨d⟩⟩ := s
  cases d with
  | nil => rfl
  | cons a l => simp [ByteArray.size] at h
theorem se_f {s : ByteArray} (h : ¬ s.size = 0) : ¬ s.toList = [] := by
  rw [Lib.toList_data]
  intro e
  apply h
  show s.data.size = 0
  rw [← Array.length_toList, e]
  rfl
theorem se_e {s : ByteArray} (h : ¬ s.size = 0) : s.toList.isEmpty = false := by
  cases e : s.toList with
  | nil => exact absurd e (se_f h)
  | cons a l => rfl
theorem se_0 {s : ByteArray} (h : s.size = 0) : s.toList = [] := by rw [se_t h, Lib.toList_data]
set_option maxHeartbeats 8000000 in
theorem sp_stop {k f l : Int} {s : ByteArray} (w : World) (hs' : (s.size : Int) ≤ 9223372036854775807) :
    Calls Try.prog 77 #[.agg #[.int .i64 k, .int .i64 f, .int .i64 l, .string s]] w fun e w' => e = .returned (.bool (dc (StP k f l s.size))) ∧ Kb 0 w w' := by
  by_cases h1 : f < 0
  · rw [dc_f (fun q => by have := q.1; omega)]
    go_enter Try.func77, Try.ntmps77
    go_wp2_with fail
    go_ret
    exact ⟨rfl, kb_alloc _ _ _⟩
  by_cases h2 : 300 ≤ f
  · rw [dc_f (fun q => by have := q.2.1; omega)]
    go_enter Try.func77, Try.ntmps77
    go_wp2_with fail
    go_ret
    exact ⟨rfl, kb_alloc _ _ _⟩
  obtain ⟨n, hn⟩ : ∃ n, n = s.size := ⟨_, rfl⟩
  rw [← hn]
  by_cases k1 : k = 1
  · subst k1
    by_cases l1 : 1 ≤ l
    rotate_left
    · rw [dc_f (fun q => by have := q.2.2; omega)]
      go_enter Try.func77, Try.ntmps77
      go_wp2_with fail
      go_ret
      exact ⟨rfl, kb_alloc _ _ _⟩
    by_cases l2 : l ≤ 100000
    rotate_left
    · rw [dc_f (fun q => by have := q.2.2; omega)]
      go_enter Try.func77, Try.ntmps77
      go_wp2_with fail
      go_ret
      exact ⟨rfl, kb_alloc _ _ _⟩
    by_cases n1 : n = 0
    rotate_left
    · rw [dc_f (fun q => by have := q.2.2; omega)]
      have es := se_e (s := s) (by omega)
      clear hn n1
      go_enter Try.func77, Try.ntmps77
      go_wp2_with fail
      go_ret
      exact ⟨rfl, kb_alloc _ _ _⟩
    · rw [dc_t ⟨by omega, by omega, .inl ⟨rfl, l1, l2, n1⟩⟩]
      have es := se_t (s := s) (by omega)
      subst es
      clear hn n1
      go_enter Try.func77, Try.ntmps77
      go_wp2_with fail
      go_ret
      exact ⟨rfl, kb_alloc _ _ _⟩
  by_cases k2 : k = 2
  · subst k2
    by_cases l1 : l = 0
    rotate_left
    · rw [dc_f (fun q => by have := q.2.2; omega)]
      have el : (l == 0) = false := by simp; omega
      go_enter Try.func77, Try.ntmps77
      go_wp2_with fail
      go_ret
      exact ⟨rfl, kb_alloc _ _ _⟩
    subst l1
    by_cases n1 : n = 0
    rotate_left
    · rw [dc_f (fun q => by have := q.2.2; omega)]
      have es := se_e (s := s) (by omega)
      clear hn n1
      go_enter Try.func77, Try.ntmps77
      go_wp2_with fail
      go_ret
      exact ⟨rfl, kb_alloc _ _ _⟩
    · rw [dc_t ⟨by omega, by omega, .inr (.inl ⟨rfl, rfl, n1⟩)⟩]
      have es := se_t (s := s) (by omega)
      subst es
      clear hn n1
      go_enter Try.func77, Try.ntmps77
      go_wp2_with fail
      go_ret
      exact ⟨rfl, kb_alloc _ _ _⟩
  by_cases k3 : k = 3
  · subst k3
    by_cases l1 : l = 0
    rotate_left
    · rw [dc_f (fun q => by have := q.2.2; omega)]
      have el : (l == 0) = false := by simp; omega
      go_enter Try.func77, Try.ntmps77
      go_wp2_with fail
      go_ret
      exact ⟨rfl, kb_alloc _ _ _⟩
    subst l1
    by_cases n1 : n = 0
    · rw [dc_f (fun q => by have := q.2.2; omega)]
      have es : ¬ (0 : Int) < (s.size : Int) := by omega
      have es2 : s.size = 0 := by omega
      clear hn n1
      go_enter Try.func77, Try.ntmps77
      go_wp2_with fail
      go_ret
      exact ⟨rfl, kb_alloc _ _ _⟩
    have es : (0 : Int) < (s.size : Int) := by omega
    have es3 : 0 < s.size := by omega
    by_cases n2 : n ≤ 40
    rotate_left
    · rw [dc_f (fun q => by have := q.2.2; omega)]
      have es2 : ¬ (s.size : Int) ≤ 40 := by omega
      clear hn n1 n2
      go_enter Try.func77, Try.ntmps77
      go_wp2_with fail
      go_ret
      exact ⟨rfl, kb_alloc _ _ _⟩
    · rw [dc_t ⟨by omega, by omega, .inr (.inr (.inl ⟨rfl, rfl, by omega, n2⟩))⟩]
      have es2 : (s.size : Int) ≤ 40 := by omega
      clear hn n1 n2
      go_enter Try.func77, Try.ntmps77
      go_wp2_with fail
      go_ret
      exact ⟨rfl, kb_alloc _ _ _⟩
  by_cases k4 : k = 4
  · subst k4
    by_cases f1 : f = 0
    rotate_left
    · rw [dc_f (fun q => by have := q.2.2; omega)]
      have el : (f == 0) = false := by simp; omega
      go_enter Try.func77, Try.ntmps77
      go_wp2_with fail
      go_ret
      exact ⟨rfl, kb_alloc _ _ _⟩
    subst f1
    by_cases l1 : l = 0
    rotate_left
    · rw [dc_f (fun q => by have := q.2.2; omega)]
      have el : (l == 0) = false := by simp; omega
      go_enter Try.func77, Try.ntmps77
      go_wp2_with fail
      go_ret
      exact ⟨rfl, kb_alloc _ _ _⟩
    subst l1
    by_cases n1 : n = 0
    rotate_left
    · rw [dc_f (fun q => by have := q.2.2; omega)]
      have es := se_e (s := s) (by omega)
      clear hn n1
      go_enter Try.func77, Try.ntmps77
      go_wp2_with fail
      go_ret
      exact ⟨rfl, kb_alloc _ _ _⟩
    · rw [dc_t ⟨by omega, by omega, .inr (.inr (.inr ⟨rfl, rfl, rfl, n1⟩))⟩]
      have es := se_t (s := s) (by omega)
      subst es
      clear hn n1
      go_enter Try.func77, Try.ntmps77
      go_wp2_with fail
      go_ret
      exact ⟨rfl, kb_alloc _ _ _⟩
  rw [dc_f (fun q => by have := q.2.2; omega)]
  have e1 : (k == 1) = false := by simp; omega
  have e2 : (k == 2) = false := by simp; omega
  have e3 : (k == 3) = false := by simp; omega
  have e4 : (k == 4) = false := by simp; omega
  clear hn
  go_enter Try.func77, Try.ntmps77
  go_wp2_with fail
  go_ret
  exact ⟨rfl, kb_alloc _ _ _⟩

end Go.Proofs.Ytamcnmnaadpfoaa.Fo

namespace Go.Proofs.Ytamcnmnaadpfoaa.Fo
open Go.ChangeShapes Go.WideShapes Go.ChangeAt Go.RowKit
set_option linter.unusedVariables false
set_option maxRecDepth 100000

set_option maxHeartbeats 4000000 in
theorem im_holds {a b n : Int} (w : World) :
    Calls Try.prog 55 #[.agg #[.int .i64 a, .int .i64 b], .int .i64 n] w fun e w' => e = .returned (.bool (dc (a ≤ n ∧ n ≤ b))) ∧ Kb 0 w w' := by
  by_cases h : a ≤ n
  rotate_left
  · rw [dc_f (fun q => h q.1)]
    go_enter Try.func55, Try.ntmps55
    go_wp2_with fail
    go_ret
    exact ⟨rfl, kb_alloc _ _ _⟩
  by_cases h2 : n ≤ b
  · rw [dc_t ⟨h, h2⟩]
    go_enter Try.func55, Try.ntmps55
    go_wp2_with fail
    go_ret
    exact ⟨rfl, kb_alloc _ _ _⟩
  · rw [dc_f (fun q => h2 q.2)]
    go_enter Try.func55, Try.ntmps55
    go_wp2_with fail
    go_ret
    exact ⟨rfl, kb_alloc _ _ _⟩

set_option maxHeartbeats 8000000 in
theorem im_stop_x {k f l : Int} {s : ByteArray} (w : World) (hs' : (s.size : Int) ≤ 9223372036854775807) (k1 : ¬ k = 1) (k2 : ¬ k = 2) (k3 : ¬ k = 3) (k4 : ¬ k = 4) :
    Calls Try.prog 58 #[.agg #[.int .i64 k, .int .i64 f, .int .i64 l, .string s]] w fun e w' => e = .returned (.bool false) ∧ Kb 0 w w' := by
  have e1 : (k == 1) = false := by simp; omega
  have e2 : (k == 2) = false := by simp; omega
  have e3 : (k == 3) = false := by simp; omega
  have e4 : (k == 4) = false := by simp; omega
  go_enter Try.func58, Try.ntmps58
  go_wp2_with fail
  go_ret
  exact ⟨rfl, (((kb_alloc _ _ _).trans (kb_alloc _ _ _)).trans (kb_alloc _ _ _)).trans (kb_alloc _ _ _)⟩
theorem four_new (w : World) (A B C D : Array Value) (tA tB tC tD : TypeId) (W : World) (h : W = (((w.alloc (.cells A tA)).alloc (.cells B tB)).alloc (.cells C tC)).alloc (.cells D tD)) :
    W.heap[w.heap.size]? = some (.cells A tA (0, 0)) ∧ W.heap[w.heap.size + 1]? = some (.cells B tB (0, 0)) ∧ W.heap[w.heap.size + 1 + 1]? = some (.cells C tC (0, 0)) ∧ W.heap[w.heap.size + 1 + 1 + 1]? = some (.cells D tD (0, 0)) ∧ Kb 0 w W := by
  subst h
  have e1 : (w.alloc (.cells A tA)).heap.size = w.heap.size + 1 := World.size_alloc _ _
  have e2 : ((w.alloc (.cells A tA)).alloc (.cells B tB)).heap.size = w.heap.size + 1 + 1 := by rw [World.size_alloc, e1]
  have e3 : (((w.alloc (.cells A tA)).alloc (.cells B tB)).alloc (.cells C tC)).heap.size = w.heap.size + 1 + 1 + 1 := by rw [World.size_alloc, e2]
  refine ⟨?_, ?_, ?_, ?_, (((kb_alloc _ _ _).trans (kb_alloc _ _ _)).trans (kb_alloc _ _ _)).trans (kb_alloc _ _ _)⟩
  · rw [(kb_alloc 0 _ _).block _ (Nat.zero_le _) (by omega), (kb_alloc 0 _ _).block _ (Nat.zero_le _) (by omega), (kb_alloc 0 _ _).block _ (Nat.zero_le _) (by omega)]
    exact alloc_new _ _ _
  · rw [(kb_alloc 0 _ _).block _ (Nat.zero_le _) (by omega), (kb_alloc 0 _ _).block _ (Nat.zero_le _) (by omega), ← e1]
    exact alloc_new _ _ _
  · rw [(kb_alloc 0 _ _).block _ (Nat.zero_le _) (by omega), ← e2]
    exact alloc_new _ _ _
  · rw [← e3]
    exact alloc_new _ _ _

set_option maxHeartbeats 8000000 in
theorem im_stop_1 {f l : Int} {s : ByteArray} (w : World) (hs' : (s.size : Int) ≤ 9223372036854775807) :
    Calls Try.prog 58 #[.agg #[.int .i64 1, .int .i64 f, .int .i64 l, .string s]] w fun e w' => e = .returned (.bool (dc (StP 1 f l s.size))) ∧ Kb 0 w w' := by
  obtain ⟨w5, hw5⟩ : ∃ w5, w5 = (((w.alloc (.cells #[.int .i64 1, .int .i64 f, .int .i64 l, .string s] 38)).alloc (.cells #[.int .i64 0, .int .i64 299] 93)).alloc (.cells #[.int .i64 1, .int .i64 100000] 93)).alloc (.cells #[.int .i64 0, .int .i64 0] 93) := ⟨_, rfl⟩
  obtain ⟨b0, b1, b2, b3, k5⟩ := four_new w _ _ _ _ _ _ _ _ w5 hw5
  have c0 : w5.cell? ⟨w.heap.size, 1, none⟩ = some (.int .i64 f) := cell_of b0 rfl
  have c1 : w5.cell? ⟨w.heap.size, 2, none⟩ = some (.int .i64 l) := cell_of b0 rfl
  have c2 : w5.cell? ⟨w.heap.size, 3, none⟩ = some (.string s) := cell_of b0 rfl
  have d0 : w5.cell? ⟨w.heap.size + 1, 0, none⟩ = some (.int .i64 0) := cell_of b1 rfl
  have d1 : w5.cell? ⟨w.heap.size + 1, 1, none⟩ = some (.int .i64 299) := cell_of b1 rfl
  have d2 : w5.cell? ⟨w.heap.size + 1 + 1, 0, none⟩ = some (.int .i64 1) := cell_of b2 rfl
  have d3 : w5.cell? ⟨w.heap.size + 1 + 1, 1, none⟩ = some (.int .i64 100000) := cell_of b2 rfl
  have d4 : w5.cell? ⟨w.heap.size + 1 + 1 + 1, 0, none⟩ = some (.int .i64 0) := cell_of b3 rfl
  have d5 : w5.cell? ⟨w.heap.size + 1 + 1 + 1, 1, none⟩ = some (.int .i64 0) := cell_of b3 rfl
  have HW : Hid (w5 = _) := hw5
  have HK : Hid (Kb 0 w w5) := k5
  have hiff : StP 1 f l s.size ↔ (0 ≤ f ∧ f ≤ 299) ∧ (1 ≤ l ∧ l ≤ 100000) ∧ ((0 : Int) ≤ (s.size : Int) ∧ (s.size : Int) ≤ 0) := by unfold StP; omega
  clear b0 b1 b2 b3 hw5 k5
  have H0 := im_holds (a := 0) (b := 299) (n := f) w5
  by_cases q0 : (0 ≤ f ∧ f ≤ 299)
  rotate_left
  · rw [dc_f q0] at H0
    rw [dc_f (fun q => q0 (hiff.1 q).1)]
    clear hiff q0
    go_enter Try.func58, Try.ntmps58
    go_upto_region 11 with fail
    rw [← (show w5 = _ from HW)]
    go_wp2_with fail
    refine H0.mono ?_
    rintro e w6 ⟨rfl, k6⟩
    have HF : Hid (Kb 0 w w6) := (show Kb 0 w w5 from HK).trans k6
    clear H0 k6 HK
    go_wp2_with fail
    go_ret
    exact ⟨rfl, HF⟩
  rw [dc_t q0] at H0
  have H1 : Hid (∀ W, Calls Try.prog 55 #[.agg #[.int .i64 1, .int .i64 100000], .int .i64 l] W fun e w' => e = .returned (.bool (dc (1 ≤ l ∧ l ≤ 100000))) ∧ Kb 0 W w') := (fun W => im_holds W : ∀ W, _)
  by_cases q1 : (1 ≤ l ∧ l ≤ 100000)
  rotate_left
  · rw [dc_f q1] at H1
    rw [dc_f (fun q => q1 (hiff.1 q).2.1)]
    clear hiff q0 q1
    go_enter Try.func58, Try.ntmps58
    go_upto_region 11 with fail
    rw [← (show w5 = _ from HW)]
    go_wp2_with fail
    refine H0.mono ?_
    rintro e w6 ⟨rfl, k6⟩
    have HF : Hid (Kb 0 w w6) := (show Kb 0 w w5 from HK).trans k6
    have c61 := k6.cell c1
    have d62 := k6.cell d2
    have d63 := k6.cell d3
    have H2 := (show ∀ W, _ from H1) w6
    clear H0 H1 k6 HK c0 c1 c2 d0 d1 d2 d3 d4 d5
    go_wp2_with fail
    refine H2.mono ?_
    rintro e w7 ⟨rfl, k7⟩
    have HF7 : Hid (Kb 0 w w7) := (show Kb 0 w w6 from HF).trans k7
    clear H2 k7 c61 d62 d63
    go_wp2_with fail
    go_ret
    exact ⟨rfl, HF7⟩
  rw [dc_t q1] at H1
  have H3 : Hid (∀ W, Calls Try.prog 55 #[.agg #[.int .i64 0, .int .i64 0], .int .i64 (s.size : Int)] W fun e w' => e = .returned (.bool (dc (StP 1 f l s.size))) ∧ Kb 0 W w') := ((fun W => by have := im_holds (a := 0) (b := 0) (n := (s.size : Int)) W; rw [show dc (StP 1 f l s.size) = dc (((0 : Int) ≤ (s.size : Int) ∧ (s.size : Int) ≤ 0)) from by congr 1; exact propext ⟨fun q => (hiff.1 q).2.2, fun q => hiff.2 ⟨q0, q1, q⟩⟩]; exact this) : ∀ W, _)
  generalize dc (StP 1 f l s.size) = ans at H3 ⊢
  clear hiff q0 q1
  go_enter Try.func58, Try.ntmps58
  go_upto_region 11 with fail
  rw [← (show w5 = _ from HW)]
  go_wp2_with fail
  refine H0.mono ?_
  rintro e w6 ⟨rfl, k6⟩
  have HF : Hid (Kb 0 w w6) := (show Kb 0 w w5 from HK).trans k6
  have c61 := k6.cell c1
  have c62 := k6.cell c2
  have d62 := k6.cell d2
  have d63 := k6.cell d3
  have d64 := k6.cell d4
  have d65 := k6.cell d5
  have H2 := (show ∀ W, _ from H1) w6
  clear H0 H1 k6 HK c0 c1 c2 d0 d1 d2 d3 d4 d5
  go_wp2_with fail
  refine H2.mono ?_
  rintro e w7 ⟨rfl, k7⟩
  have HF7 : Hid (Kb 0 w w7) := (show Kb 0 w w6 from HF).trans k7
  have c72 := k7.cell c62
  have d74 := k7.cell d64
  have d75 := k7.cell d65
  have H4 := (show ∀ W, _ from H3) w7
  clear H2 k7 c61 c62 d62 d63 d64 d65 H3
  go_wp2_with fail
  refine H4.mono ?_
  rintro e w8 ⟨rfl, k8⟩
  have HF8 : Hid (Kb 0 w w8) := (show Kb 0 w w7 from HF7).trans k8
  clear H4 k8 c72 d74 d75
  cases ans
  · go_wp2_with fail
    go_ret
    exact ⟨rfl, HF8⟩
  · go_wp2_with fail
    go_ret
    exact ⟨rfl, HF8⟩

set_option maxHeartbeats 8000000 in
theorem im_stop_2 {f l : Int} {s : ByteArray} (w : World) (hs' : (s.size : Int) ≤ 9223372036854775807) :
    Calls Try.prog 58 #[.agg #[.int .i64 2, .int .i64 f, .int .i64 l, .string s]] w fun e w' => e = .returned (.bool (dc (StP 2 f l s.size))) ∧ Kb 0 w w' := by
  obtain ⟨w5, hw5⟩ : ∃ w5, w5 = (((w.alloc (.cells #[.int .i64 2, .int .i64 f, .int .i64 l, .string s] 38)).alloc (.cells #[.int .i64 0, .int .i64 299] 93)).alloc (.cells #[.int .i64 0, .int .i64 0] 93)).alloc (.cells #[.int .i64 0, .int .i64 0] 93) := ⟨_, rfl⟩
  obtain ⟨b0, b1, b2, b3, k5⟩ := four_new w _ _ _ _ _ _ _ _ w5 hw5
  have c0 : w5.cell? ⟨w.heap.size, 1, none⟩ = some (.int .i64 f) := cell_of b0 rfl
  have c1 : w5.cell? ⟨w.heap.size, 2, none⟩ = some (.int .i64 l) := cell_of b0 rfl
  have c2 : w5.cell? ⟨w.heap.size, 3, none⟩ = some (.string s) := cell_of b0 rfl
  have d0 : w5.cell? ⟨w.heap.size + 1, 0, none⟩ = some (.int .i64 0) := cell_of b1 rfl
  have d1 : w5.cell? ⟨w.heap.size + 1, 1, none⟩ = some (.int .i64 299) := cell_of b1 rfl
  have d2 : w5.cell? ⟨w.heap.size + 1 + 1, 0, none⟩ = some (.int .i64 0) := cell_of b2 rfl
  have d3 : w5.cell? ⟨w.heap.size + 1 + 1, 1, none⟩ = some (.int .i64 0) := cell_of b2 rfl
  have d4 : w5.cell? ⟨w.heap.size + 1 + 1 + 1, 0, none⟩ = some (.int .i64 0) := cell_of b3 rfl
  have d5 : w5.cell? ⟨w.heap.size + 1 + 1 + 1, 1, none⟩ = some (.int .i64 0) := cell_of b3 rfl
  have HW : Hid (w5 = _) := hw5
  have HK : Hid (Kb 0 w w5) := k5
  have hiff : StP 2 f l s.size ↔ (0 ≤ f ∧ f ≤ 299) ∧ (0 ≤ l ∧ l ≤ 0) ∧ ((0 : Int) ≤ (s.size : Int) ∧ (s.size : Int) ≤ 0) := by unfold StP; omega
  clear b0 b1 b2 b3 hw5 k5
  have H0 := im_holds (a := 0) (b := 299) (n := f) w5
  by_cases q0 : (0 ≤ f ∧ f ≤ 299)
  rotate_left
  · rw [dc_f q0] at H0
    rw [dc_f (fun q => q0 (hiff.1 q).1)]
    clear hiff q0
    go_enter Try.func58, Try.ntmps58
    go_upto_region 11 with fail
    rw [← (show w5 = _ from HW)]
    go_wp2_with fail
    refine H0.mono ?_
    rintro e w6 ⟨rfl, k6⟩
    have HF : Hid (Kb 0 w w6) := (show Kb 0 w w5 from HK).trans k6
    clear H0 k6 HK
    go_wp2_with fail
    go_ret
    exact ⟨rfl, HF⟩
  rw [dc_t q0] at H0
  have H1 : Hid (∀ W, Calls Try.prog 55 #[.agg #[.int .i64 0, .int .i64 0], .int .i64 l] W fun e w' => e = .returned (.bool (dc (0 ≤ l ∧ l ≤ 0))) ∧ Kb 0 W w') := (fun W => im_holds W : ∀ W, _)
  by_cases q1 : (0 ≤ l ∧ l ≤ 0)
  rotate_left
  · rw [dc_f q1] at H1
    rw [dc_f (fun q => q1 (hiff.1 q).2.1)]
    clear hiff q0 q1
    go_enter Try.func58, Try.ntmps58
    go_upto_region 11 with fail
    rw [← (show w5 = _ from HW)]
    go_wp2_with fail
    refine H0.mono ?_
    rintro e w6 ⟨rfl, k6⟩
    have HF : Hid (Kb 0 w w6) := (show Kb 0 w w5 from HK).trans k6
    have c61 := k6.cell c1
    have d62 := k6.cell d2
    have d63 := k6.cell d3
    have H2 := (show ∀ W, _ from H1) w6
    clear H0 H1 k6 HK c0 c1 c2 d0 d1 d2 d3 d4 d5
    go_wp2_with fail
    refine H2.mono ?_
    rintro e w7 ⟨rfl, k7⟩
    have HF7 : Hid (Kb 0 w w7) := (show Kb 0 w w6 from HF).trans k7
    clear H2 k7 c61 d62 d63
    go_wp2_with fail
    go_ret
    exact ⟨rfl, HF7⟩
  rw [dc_t q1] at H1
  have H3 : Hid (∀ W, Calls Try.prog 55 #[.agg #[.int .i64 0, .int .i64 0], .int .i64 (s.size : Int)] W fun e w' => e = .returned (.bool (dc (StP 2 f l s.size))) ∧ Kb 0 W w') := ((fun W => by have := im_holds (a := 0) (b := 0) (n := (s.size : Int)) W; rw [show dc (StP 2 f l s.size) = dc (((0 : Int) ≤ (s.size : Int) ∧ (s.size : Int) ≤ 0)) from by congr 1; exact propext ⟨fun q => (hiff.1 q).2.2, fun q => hiff.2 ⟨q0, q1, q⟩⟩]; exact this) : ∀ W, _)
  generalize dc (StP 2 f l s.size) = ans at H3 ⊢
  clear hiff q0 q1
  go_enter Try.func58, Try.ntmps58
  go_upto_region 11 with fail
  rw [← (show w5 = _ from HW)]
  go_wp2_with fail
  refine H0.mono ?_
  rintro e w6 ⟨rfl, k6⟩
  have HF : Hid (Kb 0 w w6) := (show Kb 0 w w5 from HK).trans k6
  have c61 := k6.cell c1
  have c62 := k6.cell c2
  have d62 := k6.cell d2
  have d63 := k6.cell d3
  have d64 := k6.cell d4
  have d65 := k6.cell d5
  have H2 := (show ∀ W, _ from H1) w6
  clear H0 H1 k6 HK c0 c1 c2 d0 d1 d2 d3 d4 d5
  go_wp2_with fail
  refine H2.mono ?_
  rintro e w7 ⟨rfl, k7⟩
  have HF7 : Hid (Kb 0 w w7) := (show Kb 0 w w6 from HF).trans k7
  have c72 := k7.cell c62
  have d74 := k7.cell d64
  have d75 := k7.cell d65
  have H4 := (show ∀ W, _ from H3) w7
  clear H2 k7 c61 c62 d62 d63 d64 d65 H3
  go_wp2_with fail
  refine H4.mono ?_
  rintro e w8 ⟨rfl, k8⟩
  have HF8 : Hid (Kb 0 w w8) := (show Kb 0 w w7 from HF7).trans k8
  clear H4 k8 c72 d74 d75
  cases ans
  · go_wp2_with fail
    go_ret
    exact ⟨rfl, HF8⟩
  · go_wp2_with fail
    go_ret
    exact ⟨rfl, HF8⟩

set_option maxHeartbeats 8000000 in
theorem im_stop_3 {f l : Int} {s : ByteArray} (w : World) (hs' : (s.size : Int) ≤ 9223372036854775807) :
    Calls Try.prog 58 #[.agg #[.int .i64 3, .int .i64 f, .int .i64 l, .string s]] w fun e w' => e = .returned (.bool (dc (StP 3 f l s.size))) ∧ Kb 0 w w' := by
  obtain ⟨w5, hw5⟩ : ∃ w5, w5 = (((w.alloc (.cells #[.int .i64 3, .int .i64 f, .int .i64 l, .string s] 38)).alloc (.cells #[.int .i64 0, .int .i64 299] 93)).alloc (.cells #[.int .i64 0, .int .i64 0] 93)).alloc (.cells #[.int .i64 1, .int .i64 40] 93) := ⟨_, rfl⟩
  obtain ⟨b0, b1, b2, b3, k5⟩ := four_new w _ _ _ _ _ _ _ _ w5 hw5
  have c0 : w5.cell? ⟨w.heap.size, 1, none⟩ = some (.int .i64 f) := cell_of b0 rfl
  have c1 : w5.cell? ⟨w.heap.size, 2, none⟩ = some (.int .i64 l) := cell_of b0 rfl
  have c2 : w5.cell? ⟨w.heap.size, 3, none⟩ = some (.string s) := cell_of b0 rfl
  have d0 : w5.cell? ⟨w.heap.size + 1, 0, none⟩ = some (.int .i64 0) := cell_of b1 rfl
  have d1 : w5.cell? ⟨w.heap.size + 1, 1, none⟩ = some (.int .i64 299) := cell_of b1 rfl
  have d2 : w5.cell? ⟨w.heap.size + 1 + 1, 0, none⟩ = some (.int .i64 0) := cell_of b2 rfl
  have d3 : w5.cell? ⟨w.heap.size + 1 + 1, 1, none⟩ = some (.int .i64 0) := cell_of b2 rfl
  have d4 : w5.cell? ⟨w.heap.size + 1 + 1 + 1, 0, none⟩ = some (.int .i64 1) := cell_of b3 rfl
  have d5 : w5.cell? ⟨w.heap.size + 1 + 1 + 1, 1, none⟩ = some (.int .i64 40) := cell_of b3 rfl
  have HW : Hid (w5 = _) := hw5
  have HK : Hid (Kb 0 w w5) := k5
  have hiff : StP 3 f l s.size ↔ (0 ≤ f ∧ f ≤ 299) ∧ (0 ≤ l ∧ l ≤ 0) ∧ ((1 : Int) ≤ (s.size : Int) ∧ (s.size : Int) ≤ 40) := by unfold StP; omega
  clear b0 b1 b2 b3 hw5 k5
  have H0 := im_holds (a := 0) (b := 299) (n := f) w5
  by_cases q0 : (0 ≤ f ∧ f ≤ 299)
  rotate_left
  · rw [dc_f q0] at H0
    rw [dc_f (fun q => q0 (hiff.1 q).1)]
    clear hiff q0
    go_enter Try.func58, Try.ntmps58
    go_upto_region 11 with fail
    rw [← (show w5 = _ from HW)]
    go_wp2_with fail
    refine H0.mono ?_
    rintro e w6 ⟨rfl, k6⟩
    have HF : Hid (Kb 0 w w6) := (show Kb 0 w w5 from HK).trans k6
    clear H0 k6 HK
    go_wp2_with fail
    go_ret
    exact ⟨rfl, HF⟩
  rw [dc_t q0] at H0
  have H1 : Hid (∀ W, Calls Try.prog 55 #[.agg #[.int .i64 0, .int .i64 0], .int .i64 l] W fun e w' => e = .returned (.bool (dc (0 ≤ l ∧ l ≤ 0))) ∧ Kb 0 W w') := (fun W => im_holds W : ∀ W, _)
  by_cases q1 : (0 ≤ l ∧ l ≤ 0)
  rotate_left
  · rw [dc_f q1] at H1
    rw [dc_f (fun q => q1 (hiff.1 q).2.1)]
    clear hiff q0 q1
    go_enter Try.func58, Try.ntmps58
    go_upto_region 11 with fail
    rw [← (show w5 = _ from HW)]
    go_wp2_with fail
    refine H0.mono ?_
    rintro e w6 ⟨rfl, k6⟩
    have HF : Hid (Kb 0 w w6) := (show Kb 0 w w5 from HK).trans k6
    have c61 := k6.cell c1
    have d62 := k6.cell d2
    have d63 := k6.cell d3
    have H2 := (show ∀ W, _ from H1) w6
    clear H0 H1 k6 HK c0 c1 c2 d0 d1 d2 d3 d4 d5
    go_wp2_with fail
    refine H2.mono ?_
    rintro e w7 ⟨rfl, k7⟩
    have HF7 : Hid (Kb 0 w w7) := (show Kb 0 w w6 from HF).trans k7
    clear H2 k7 c61 d62 d63
    go_wp2_with fail
    go_ret
    exact ⟨rfl, HF7⟩
  rw [dc_t q1] at H1
  have H3 : Hid (∀ W, Calls Try.prog 55 #[.agg #[.int .i64 1, .int .i64 40], .int .i64 (s.size : Int)] W fun e w' => e = .returned (.bool (dc (StP 3 f l s.size))) ∧ Kb 0 W w') := ((fun W => by have := im_holds (a := 1) (b := 40) (n := (s.size : Int)) W; rw [show dc (StP 3 f l s.size) = dc (((1 : Int) ≤ (s.size : Int) ∧ (s.size : Int) ≤ 40)) from by congr 1; exact propext ⟨fun q => (hiff.1 q).2.2, fun q => hiff.2 ⟨q0, q1, q⟩⟩]; exact this) : ∀ W, _)
  generalize dc (StP 3 f l s.size) = ans at H3 ⊢
  clear hiff q0 q1
  go_enter Try.func58, Try.ntmps58
  go_upto_region 11 with fail
  rw [← (show w5 = _ from HW)]
  go_wp2_with fail
  refine H0.mono ?_
  rintro e w6 ⟨rfl, k6⟩
  have HF : Hid (Kb 0 w w6) := (show Kb 0 w w5 from HK).trans k6
  have c61 := k6.cell c1
  have c62 := k6.cell c2
  have d62 := k6.cell d2
  have d63 := k6.cell d3
  have d64 := k6.cell d4
  have d65 := k6.cell d5
  have H2 := (show ∀ W, _ from H1) w6
  clear H0 H1 k6 HK c0 c1 c2 d0 d1 d2 d3 d4 d5
  go_wp2_with fail
  refine H2.mono ?_
  rintro e w7 ⟨rfl, k7⟩
  have HF7 : Hid (Kb 0 w w7) := (show Kb 0 w w6 from HF).trans k7
  have c72 := k7.cell c62
  have d74 := k7.cell d64
  have d75 := k7.cell d65
  have H4 := (show ∀ W, _ from H3) w7
  clear H2 k7 c61 c62 d62 d63 d64 d65 H3
  go_wp2_with fail
  refine H4.mono ?_
  rintro e w8 ⟨rfl, k8⟩
  have HF8 : Hid (Kb 0 w w8) := (show Kb 0 w w7 from HF7).trans k8
  clear H4 k8 c72 d74 d75
  cases ans
  · go_wp2_with fail
    go_ret
    exact ⟨rfl, HF8⟩
  · go_wp2_with fail
    go_ret
    exact ⟨rfl, HF8⟩

set_option maxHeartbeats 8000000 in
theorem im_stop_4 {f l : Int} {s : ByteArray} (w : World) (hs' : (s.size : Int) ≤ 9223372036854775807) :
    Calls Try.prog 58 #[.agg #[.int .i64 4, .int .i64 f, .int .i64 l, .string s]] w fun e w' => e = .returned (.bool (dc (StP 4 f l s.size))) ∧ Kb 0 w w' := by
  obtain ⟨w5, hw5⟩ : ∃ w5, w5 = (((w.alloc (.cells #[.int .i64 4, .int .i64 f, .int .i64 l, .string s] 38)).alloc (.cells #[.int .i64 0, .int .i64 0] 93)).alloc (.cells #[.int .i64 0, .int .i64 0] 93)).alloc (.cells #[.int .i64 0, .int .i64 0] 93) := ⟨_, rfl⟩
  obtain ⟨b0, b1, b2, b3, k5⟩ := four_new w _ _ _ _ _ _ _ _ w5 hw5
  have c0 : w5.cell? ⟨w.heap.size, 1, none⟩ = some (.int .i64 f) := cell_of b0 rfl
  have c1 : w5.cell? ⟨w.heap.size, 2, none⟩ = some (.int .i64 l) := cell_of b0 rfl
  have c2 : w5.cell? ⟨w.heap.size, 3, none⟩ = some (.string s) := cell_of b0 rfl
  have d0 : w5.cell? ⟨w.heap.size + 1, 0, none⟩ = some (.int .i64 0) := cell_of b1 rfl
  have d1 : w5.cell? ⟨w.heap.size + 1, 1, none⟩ = some (.int .i64 0) := cell_of b1 rfl
  have d2 : w5.cell? ⟨w.heap.size + 1 + 1, 0, none⟩ = some (.int .i64 0) := cell_of b2 rfl
  have d3 : w5.cell? ⟨w.heap.size + 1 + 1, 1, none⟩ = some (.int .i64 0) := cell_of b2 rfl
  have d4 : w5.cell? ⟨w.heap.size + 1 + 1 + 1, 0, none⟩ = some (.int .i64 0) := cell_of b3 rfl
  have d5 : w5.cell? ⟨w.heap.size + 1 + 1 + 1, 1, none⟩ = some (.int .i64 0) := cell_of b3 rfl
  have HW : Hid (w5 = _) := hw5
  have HK : Hid (Kb 0 w w5) := k5
  have hiff : StP 4 f l s.size ↔ (0 ≤ f ∧ f ≤ 0) ∧ (0 ≤ l ∧ l ≤ 0) ∧ ((0 : Int) ≤ (s.size : Int) ∧ (s.size : Int) ≤ 0) := by unfold StP; omega
  clear b0 b1 b2 b3 hw5 k5
  have H0 := im_holds (a := 0) (b := 0) (n := f) w5
  by_cases q0 : (0 ≤ f ∧ f ≤ 0)
  rotate_left
  · rw [dc_f q0] at H0
    rw [dc_f (fun q => q0 (hiff.1 q).1)]
    clear hiff q0
    go_enter Try.func58, Try.ntmps58
    go_upto_region 11 with fail
    rw [← (show w5 = _ from HW)]
    go_wp2_with fail
    refine H0.mono ?_
    rintro e w6 ⟨rfl, k6⟩
    have HF : Hid (Kb 0 w w6) := (show Kb 0 w w5 from HK).trans k6
    clear H0 k6 HK
    go_wp2_with fail
    go_ret
    exact ⟨rfl, HF⟩
  rw [dc_t q0] at H0
  have H1 : Hid (∀ W, Calls Try.prog 55 #[.agg #[.int .i64 0, .int .i64 0], .int .i64 l] W fun e w' => e = .returned (.bool (dc (0 ≤ l ∧ l ≤ 0))) ∧ Kb 0 W w') := (fun W => im_holds W : ∀ W, _)
  by_cases q1 : (0 ≤ l ∧ l ≤ 0)
  rotate_left
  · rw [dc_f q1] at H1
    rw [dc_f (fun q => q1 (hiff.1 q).2.1)]
    clear hiff q0 q1
    go_enter Try.func58, Try.ntmps58
    go_upto_region 11 with fail
    rw [← (show w5 = _ from HW)]
    go_wp2_with fail
    refine H0.mono ?_
    rintro e w6 ⟨rfl, k6⟩
    have HF : Hid (Kb 0 w w6) := (show Kb 0 w w5 from HK).trans k6
    have c61 := k6.cell c1
    have d62 := k6.cell d2
    have d63 := k6.cell d3
    have H2 := (show ∀ W, _ from H1) w6
    clear H0 H1 k6 HK c0 c1 c2 d0 d1 d2 d3 d4 d5
    go_wp2_with fail
    refine H2.mono ?_
    rintro e w7 ⟨rfl, k7⟩
    have HF7 : Hid (Kb 0 w w7) := (show Kb 0 w w6 from HF).trans k7
    clear H2 k7 c61 d62 d63
    go_wp2_with fail
    go_ret
    exact ⟨rfl, HF7⟩
  rw [dc_t q1] at H1
  have H3 : Hid (∀ W, Calls Try.prog 55 #[.agg #[.int .i64 0, .int .i64 0], .int .i64 (s.size : Int)] W fun e w' => e = .returned (.bool (dc (StP 4 f l s.size))) ∧ Kb 0 W w') := ((fun W => by have := im_holds (a := 0) (b := 0) (n := (s.size : Int)) W; rw [show dc (StP 4 f l s.size) = dc (((0 : Int) ≤ (s.size : Int) ∧ (s.size : Int) ≤ 0)) from by congr 1; exact propext ⟨fun q => (hiff.1 q).2.2, fun q => hiff.2 ⟨q0, q1, q⟩⟩]; exact this) : ∀ W, _)
  generalize dc (StP 4 f l s.size) = ans at H3 ⊢
  clear hiff q0 q1
  go_enter Try.func58, Try.ntmps58
  go_upto_region 11 with fail
  rw [← (show w5 = _ from HW)]
  go_wp2_with fail
  refine H0.mono ?_
  rintro e w6 ⟨rfl, k6⟩
  have HF : Hid (Kb 0 w w6) := (show Kb 0 w w5 from HK).trans k6
  have c61 := k6.cell c1
  have c62 := k6.cell c2
  have d62 := k6.cell d2
  have d63 := k6.cell d3
  have d64 := k6.cell d4
  have d65 := k6.cell d5
  have H2 := (show ∀ W, _ from H1) w6
  clear H0 H1 k6 HK c0 c1 c2 d0 d1 d2 d3 d4 d5
  go_wp2_with fail
  refine H2.mono ?_
  rintro e w7 ⟨rfl, k7⟩
  have HF7 : Hid (Kb 0 w w7) := (show Kb 0 w w6 from HF).trans k7
  have c72 := k7.cell c62
  have d74 := k7.cell d64
  have d75 := k7.cell d65
  have H4 := (show ∀ W, _ from H3) w7
  clear H2 k7 c61 c62 d62 d63 d64 d65 H3
  go_wp2_with fail
  refine H4.mono ?_
  rintro e w8 ⟨rfl, k8⟩
  have HF8 : Hid (Kb 0 w w8) := (show Kb 0 w w7 from HF7).trans k8
  clear H4 k8 c72 d74 d75
  cases ans
  · go_wp2_with fail
    go_ret
    exact ⟨rfl, HF8⟩
  · go_wp2_with fail
    go_ret
    exact ⟨rfl, HF8⟩

theorem im_stop {k f l : Int} {s : ByteArray} (w : World) (hs' : (s.size : Int) ≤ 9223372036854775807) :
    Calls Try.prog 58 #[.agg #[.int .i64 k, .int .i64 f, .int .i64 l, .string s]] w fun e w' => e = .returned (.bool (dc (StP k f l s.size))) ∧ Kb 0 w w' := by
  by_cases k1 : k = 1
  · subst k1; exact im_stop_1 w hs'
  by_cases k2 : k = 2
  · subst k2; exact im_stop_2 w hs'
  by_cases k3 : k = 3
  · subst k3; exact im_stop_3 w hs'
  by_cases k4 : k = 4
  · subst k4; exact im_stop_4 w hs'
  rw [dc_f (fun q => by have := q.2.2; omega)]
  exact im_stop_x w hs' k1 k2 k3 k4
end Go.Proofs.Ytamcnmnaadpfoaa.Fo
