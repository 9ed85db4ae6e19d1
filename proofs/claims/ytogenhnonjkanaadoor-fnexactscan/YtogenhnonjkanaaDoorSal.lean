import Derived.Test.YtogenhnonjkanaaDoorSak
namespace Go.Proofs.YtogenhnonjkanaaDoor
open Go.ChangeShapes Go.WideShapes Go.ChangeAt Go.RowKit
set_option linter.unusedVariables false
theorem sgn_same : ∀ j : Fin 30, sv (sgnL.getD j.val []) = ssv (sgnL.getD j.val []) ∧ ssv (sgnL.getD j.val []) ≠ 0 ∧ 0 < (sgnL.getD j.val []).length ∧ (sgnL.getD j.val []).length ≤ 3 := by decide +kernel
theorem sgn_order : ∀ m j : Fin 30, m.val < j.val → ¬ ((sgnL.getD m.val []).length < (sgnL.getD j.val []).length ∧ (sgnL.getD j.val []).take (sgnL.getD m.val []).length = sgnL.getD m.val []) := by decide +kernel
theorem marks_in : ∀ b : Fin 11, ∃ j : Fin 30, marksL.getD b.val [] = sgnL.getD j.val [] := by decide +kernel
theorem infix_in : ∀ b : Fin 18, ∃ j : Fin 30, infixL.getD b.val [] = sgnL.getD j.val [] := by decide +kernel
theorem find_some {ws : List (List UInt8)} {X : List UInt8} {i : Nat} (h : wfind ws X = some i) : i < ws.length ∧ ws.getD i [] = X := by
  unfold wfind at h
  rw [List.findIdx?_eq_some_iff_getElem] at h
  obtain ⟨h1, h2, _⟩ := h
  refine ⟨h1, ?_⟩
  rw [getD_of _ _ _ h1]
  exact eq_of_beq h2
theorem sv_in (X : List UInt8) (h : sv X ≠ 0) : X = [10] ∨ ∃ j, j < 30 ∧ X = sgnL.getD j [] := by
  unfold sv at h
  by_cases h1 : X = [59]
  · right; exact ⟨22, by omega, by rw [h1]; decide⟩
  · rw [if_neg h1] at h
    by_cases h2 : X = [10]
    · left; exact h2
    · rw [if_neg h2] at h
      right
      cases hm : wfind marksL X with
      | some b =>
        obtain ⟨l1, e1⟩ := find_some hm
        obtain ⟨j, hj⟩ := marks_in ⟨b, by rw [marks_len] at l1; exact l1⟩
        exact ⟨j.val, j.isLt, by rw [← hj, ← e1]⟩
      | none =>
        cases hi : wfind infixL X with
        | some b =>
          obtain ⟨l1, e1⟩ := find_some hi
          obtain ⟨j, hj⟩ := infix_in ⟨b, by rw [infix_len] at l1; exact l1⟩
          exact ⟨j.val, j.isLt, by rw [← hj, ← e1]⟩
        | none => rw [hm, hi] at h; exact absurd rfl h
theorem sgr_none (R : List UInt8) : ∀ s, (∀ t, 0 < t → t ≤ s → sv (R.take t) = 0) → sgr R s = (0, 0)
  | 0, _ => rfl
  | s + 1, h => by rw [sgr, if_pos (h (s + 1) (by omega) (by omega))]; exact sgr_none R s (fun t h1 h2 => h t h1 (by omega))
theorem sgr_some (R : List UInt8) (s0 : Nat) (h0 : 0 < s0) (hv : sv (R.take s0) ≠ 0) : ∀ s, s0 ≤ s → (∀ t, s0 < t → t ≤ s → sv (R.take t) = 0) → sgr R s = (sv (R.take s0), s0)
  | 0, h1, _ => by omega
  | s + 1, h1, h => by
    by_cases e : s0 = s + 1
    · subst e; rw [sgr, if_neg hv]
    · rw [sgr, if_pos (h (s + 1) (by omega) (by omega))]
      exact sgr_some R s0 h0 hv s (by omega) (fun t h2 h3 => h t h2 (by omega))
/-- how the signs lie at a place: at m, or nowhere (m = 30) -/
def Sm (R : List UInt8) (m : Nat) : Prop := m ≤ 30 ∧ (∀ j, j < m → (R.take (sgnL.getD j []).length == sgnL.getD j []) = false) ∧ (m = 30 ∨ (R.take (sgnL.getD m []).length == sgnL.getD m []) = true)
theorem sm_any (R : List UInt8) : ∃ m, Sm R m := by
  have key : ∀ n, n ≤ 30 → (∃ m, m < n ∧ (∀ j, j < m → (R.take (sgnL.getD j []).length == sgnL.getD j []) = false) ∧ (R.take (sgnL.getD m []).length == sgnL.getD m []) = true) ∨ (∀ j, j < n → (R.take (sgnL.getD j []).length == sgnL.getD j []) = false) := by
    intro n
    induction n with
    | zero => intro _; right; intro j hj; omega
    | succ n ih =>
      intro hn
      rcases ih (by omega) with ⟨m, h1, h2, h3⟩ | h
      · left; exact ⟨m, by omega, h2, h3⟩
      · cases hc : (R.take (sgnL.getD n []).length == sgnL.getD n []) with
        | true => left; exact ⟨n, by omega, h, hc⟩
        | false =>
          right
          intro j hj
          by_cases e : j = n
          · subst e; exact hc
          · exact h j (by omega)
  rcases key 30 (Nat.le_refl _) with ⟨m, h1, h2, h3⟩ | h
  · exact ⟨m, by omega, h2, .inr h3⟩
  · exact ⟨30, Nat.le_refl _, h, .inl rfl⟩
theorem sign_eq {R : List UInt8} {m : Nat} (hm : Sm R m) (hnl : R.head? ≠ some 10) : sgAt R = if m < 30 then (ssv (sgnL.getD m []), (sgnL.getD m []).length) else (0, 0) := by
  obtain ⟨h1, h2, h3⟩ := hm
  have hno : ∀ t, 0 < t → t ≤ R.length → sv (R.take t) ≠ 0 → ∃ j, j < 30 ∧ R.take t = sgnL.getD j [] ∧ m ≤ j ∧ (sgnL.getD j []).length = t := by
    intro t ht ht2 hv
    rcases sv_in _ hv with g | ⟨j, hj, g⟩
    · exfalso
      apply hnl
      cases R with
      | nil => simp at g
      | cons c r =>
        cases t with
        | zero => omega
        | succ t => simp at g; simp [g.1]
    · refine ⟨j, hj, g, ?_, ?_⟩
      · rcases Nat.lt_or_ge j m with h | h
        · exfalso
          have hlen : (sgnL.getD j []).length = t := by rw [← g, List.length_take]; omega
          have := h2 j h
          rw [hlen, g] at this
          simp at this
        · exact h
      · rw [← g, List.length_take]; omega
  by_cases hm30 : m < 30
  · rw [if_pos hm30]
    obtain ⟨s1, s2, s3, s4⟩ := sgn_same ⟨m, hm30⟩
    replace s1 : sv (sgnL.getD m []) = ssv (sgnL.getD m []) := s1
    replace s2 : ssv (sgnL.getD m []) ≠ 0 := s2
    replace s3 : 0 < (sgnL.getD m []).length := s3
    replace s4 : (sgnL.getD m []).length ≤ 3 := s4
    have hpre := eq_of_beq (h3.resolve_left (by omega))
    have hlenR : (sgnL.getD m []).length ≤ R.length := by
      have := congrArg List.length hpre
      rw [List.length_take] at this
      omega
    have e := sgr_some R (sgnL.getD m []).length s3 (by rw [hpre, s1]; exact s2) (min 3 R.length) (by omega) (by
      intro t ht1 ht2
      apply Classical.byContradiction
      intro hv
      obtain ⟨j, hj, g, hmj, hl⟩ := hno t (by omega) (by omega) hv
      have hne : m < j := by
        rcases Nat.lt_or_ge m j with h | h
        · exact h
        · have : j = m := by omega
          subst this
          omega
      refine sgn_order ⟨m, hm30⟩ ⟨j, hj⟩ hne ⟨by show (sgnL.getD m []).length < (sgnL.getD j []).length; omega, ?_⟩
      show (sgnL.getD j []).take (sgnL.getD m []).length = sgnL.getD m []
      rw [← g, List.take_take, Nat.min_eq_left (by omega)]
      exact hpre)
    unfold sgAt
    rw [e, hpre, s1]
  · rw [if_neg hm30]
    unfold sgAt
    apply sgr_none
    intro t ht1 ht2
    apply Classical.byContradiction
    intro hv
    obtain ⟨j, hj, _, hmj, _⟩ := hno t ht1 (by omega) hv
    omega
/-- at a newline it is the newline -/
theorem sign_nl {R : List UInt8} (hnl : R.head? = some 10) : sgAt R = (7, 1) := by
  obtain ⟨c, r, rfl⟩ : ∃ c r, R = c :: r := by cases R with
    | nil => simp at hnl
    | cons c r => exact ⟨c, r, rfl⟩
  have hc : c = 10 := by simpa using hnl
  subst hc
  have h1 : sv (((10 : UInt8) :: r).take 1) = 7 := by simp [sv]
  have e := sgr_some (10 :: r) 1 (by omega) (by rw [h1]; decide) (min 3 ((10 : UInt8) :: r).length) (by simp; omega) (by
    intro t ht1 ht2
    apply Classical.byContradiction
    intro hv
    rcases sv_in _ hv with g | ⟨j, hj, g⟩
    · have := congrArg List.length g
      rw [List.length_take] at this
      simp at this ht2
      omega
    · have hh := congrArg List.head? g
      have hfirst : ∀ j : Fin 30, (sgnL.getD j.val []).head? ≠ some 10 := by decide +kernel
      apply hfirst ⟨j, hj⟩
      rw [show (sgnL.getD (⟨j, hj⟩ : Fin 30).val []) = sgnL.getD j [] from rfl, ← hh]
      cases t with
      | zero => omega
      | succ t => simp)
  unfold sgAt
  rw [e, h1]
end Go.Proofs.YtogenhnonjkanaaDoor
