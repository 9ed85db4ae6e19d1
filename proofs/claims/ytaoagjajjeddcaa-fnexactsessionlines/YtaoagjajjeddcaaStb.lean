import Derived.Test.YtaoagjajjeddcaaSta
namespace Go.Proofs.Ytaoagjajjeddcaa.Fo
open Go.ChangeShapes Go.WideShapes Go.ChangeAt Go.RowKit
set_option linter.unusedVariables false
set_option maxRecDepth 100000

theorem se_t {s : ByteArray} (h : s.size = 0) : s = { data := #[] } := by
  obtain ⟨⟨d⟩⟩ := s
  cases d with
  | nil => rfl
  | cons a l => simp [ByteArray.size] at h
theorem se_f {s : ByteArray} (h : ¬ s.size = 0) : ¬ s.toList = [] := by
  rw [Lib.toList_data]
  intro e
  apply h
  show s.data.size = 0
  rw [← Array.length_toList, e]
  rfl
theorem se_e {s : ByteArray} (h : ¬ s.size = 0) : s.toList.isEmpty = false := by
  cases e : s.toList with
  | nil => exact absurd e (se_f h)
  | cons a l => rfl
theorem se_0 {s : ByteArray} (h : s.size = 0) : s.toList = [] := by rw [se_t h, Lib.toList_data]
set_option maxHeartbeats 8000000 in
theorem sp_stop {k f l : Int} {s : ByteArray} (w : World) (hs' : (s.size : Int) ≤ 9223372036854775807) :
    Calls Try.prog 7 #[.agg #[.int .i64 k, .int .i64 f, .int .i64 l, .string s]] w fun e w' => e = .returned (.bool (dc (StP k f l s.size))) ∧ Kb 0 w w' := by
  by_cases h1 : f < 0
  · rw [dc_f (fun q => by have := q.1; omega)]
    go_enter Try.func7, Try.ntmps7
    go_wp2_with fail
    go_ret
    exact ⟨rfl, kb_alloc _ _ _⟩
  by_cases h2 : 300 ≤ f
  · rw [dc_f (fun q => by have := q.2.1; omega)]
    go_enter Try.func7, Try.ntmps7
    go_wp2_with fail
    go_ret
    exact ⟨rfl, kb_alloc _ _ _⟩
  obtain ⟨n, hn⟩ : ∃ n, n = s.size := ⟨_, rfl⟩
  rw [← hn]
  by_cases k1 : k = 1
  · subst k1
    by_cases l1 : 1 ≤ l
    rotate_left
    · rw [dc_f (fun q => by have := q.2.2; omega)]
      go_enter Try.func7, Try.ntmps7
      go_wp2_with fail
      go_ret
      exact ⟨rfl, kb_alloc _ _ _⟩
    by_cases l2 : l ≤ 100000
    rotate_left
    · rw [dc_f (fun q => by have := q.2.2; omega)]
      go_enter Try.func7, Try.ntmps7
      go_wp2_with fail
      go_ret
      exact ⟨rfl, kb_alloc _ _ _⟩
    by_cases n1 : n = 0
    rotate_left
    · rw [dc_f (fun q => by have := q.2.2; omega)]
      have es := se_e (s := s) (by omega)
      clear hn n1
      go_enter Try.func7, Try.ntmps7
      go_wp2_with fail
      go_ret
      exact ⟨rfl, kb_alloc _ _ _⟩
    · rw [dc_t ⟨by omega, by omega, .inl ⟨rfl, l1, l2, n1⟩⟩]
      have es := se_t (s := s) (by omega)
      subst es
      clear hn n1
      go_enter Try.func7, Try.ntmps7
      go_wp2_with fail
      go_ret
      exact ⟨rfl, kb_alloc _ _ _⟩
  by_cases k2 : k = 2
  · subst k2
    by_cases l1 : l = 0
    rotate_left
    · rw [dc_f (fun q => by have := q.2.2; omega)]
      have el : (l == 0) = false := by simp; omega
      go_enter Try.func7, Try.ntmps7
      go_wp2_with fail
      go_ret
      exact ⟨rfl, kb_alloc _ _ _⟩
    subst l1
    by_cases n1 : n = 0
    rotate_left
    · rw [dc_f (fun q => by have := q.2.2; omega)]
      have es := se_e (s := s) (by omega)
      clear hn n1
      go_enter Try.func7, Try.ntmps7
      go_wp2_with fail
      go_ret
      exact ⟨rfl, kb_alloc _ _ _⟩
    · rw [dc_t ⟨by omega, by omega, .inr (.inl ⟨rfl, rfl, n1⟩)⟩]
      have es := se_t (s := s) (by omega)
      subst es
      clear hn n1
      go_enter Try.func7, Try.ntmps7
      go_wp2_with fail
      go_ret
      exact ⟨rfl, kb_alloc _ _ _⟩
  by_cases k3 : k = 3
  · subst k3
    by_cases l1 : l = 0
    rotate_left
    · rw [dc_f (fun q => by have := q.2.2; omega)]
      have el : (l == 0) = false := by simp; omega
      go_enter Try.func7, Try.ntmps7
      go_wp2_with fail
      go_ret
      exact ⟨rfl, kb_alloc _ _ _⟩
    subst l1
    by_cases n1 : n = 0
    · rw [dc_f (fun q => by have := q.2.2; omega)]
      have es : ¬ (0 : Int) < (s.size : Int) := by omega
      have es2 : s.size = 0 := by omega
      clear hn n1
      go_enter Try.func7, Try.ntmps7
      go_wp2_with fail
      go_ret
      exact ⟨rfl, kb_alloc _ _ _⟩
    have es : (0 : Int) < (s.size : Int) := by omega
    have es3 : 0 < s.size := by omega
    by_cases n2 : n ≤ 40
    rotate_left
    · rw [dc_f (fun q => by have := q.2.2; omega)]
      have es2 : ¬ (s.size : Int) ≤ 40 := by omega
      clear hn n1 n2
      go_enter Try.func7, Try.ntmps7
      go_wp2_with fail
      go_ret
      exact ⟨rfl, kb_alloc _ _ _⟩
    · rw [dc_t ⟨by omega, by omega, .inr (.inr (.inl ⟨rfl, rfl, by omega, n2⟩))⟩]
      have es2 : (s.size : Int) ≤ 40 := by omega
      clear hn n1 n2
      go_enter Try.func7, Try.ntmps7
      go_wp2_with fail
      go_ret
      exact ⟨rfl, kb_alloc _ _ _⟩
  by_cases k4 : k = 4
  · subst k4
    by_cases f1 : f = 0
    rotate_left
    · rw [dc_f (fun q => by have := q.2.2; omega)]
      have el : (f == 0) = false := by simp; omega
      go_enter Try.func7, Try.ntmps7
      go_wp2_with fail
      go_ret
      exact ⟨rfl, kb_alloc _ _ _⟩
    subst f1
    by_cases l1 : l = 0
    rotate_left
    · rw [dc_f (fun q => by have := q.2.2; omega)]
      have el : (l == 0) = false := by simp; omega
      go_enter Try.func7, Try.ntmps7
      go_wp2_with fail
      go_ret
      exact ⟨rfl, kb_alloc _ _ _⟩
    subst l1
    by_cases n1 : n = 0
    rotate_left
    · rw [dc_f (fun q => by have := q.2.2; omega)]
      have es := se_e (s := s) (by omega)
      clear hn n1
      go_enter Try.func7, Try.ntmps7
      go_wp2_with fail
      go_ret
      exact ⟨rfl, kb_alloc _ _ _⟩
    · rw [dc_t ⟨by omega, by omega, .inr (.inr (.inr ⟨rfl, rfl, rfl, n1⟩))⟩]
      have es := se_t (s := s) (by omega)
      subst es
      clear hn n1
      go_enter Try.func7, Try.ntmps7
      go_wp2_with fail
      go_ret
      exact ⟨rfl, kb_alloc _ _ _⟩
  rw [dc_f (fun q => by have := q.2.2; omega)]
  have e1 : (k == 1) = false := by simp; omega
  have e2 : (k == 2) = false := by simp; omega
  have e3 : (k == 3) = false := by simp; omega
  have e4 : (k == 4) = false := by simp; omega
  clear hn
  go_enter Try.func7, Try.ntmps7
  go_wp2_with fail
  go_ret
  exact ⟨rfl, kb_alloc _ _ _⟩

end Go.Proofs.Ytaoagjajjeddcaa.Fo
