import Derived.Test.YtgocahalfanpjaaDoorCnd
namespace Go.Proofs.YtgocahalfanpjaaDoor.Fo
open Go.ChangeShapes Go.WideShapes Go.ChangeAt Go.RowKit
set_option linter.unusedVariables false
set_option maxRecDepth 100000

theorem jn_app {R : List (List UInt8)} (p : List UInt8) (h : R ≠ []) : jn (R ++ [p]) = jn R ++ 47 :: p := by
  induction R with
  | nil => exact absurd rfl h
  | cons a r ih =>
    cases r with
    | nil => simp [jn]
    | cons b s =>
      have := ih (by simp)
      show a ++ 47 :: jn ((b :: s) ++ [p]) = a ++ 47 :: jn (b :: s) ++ 47 :: p
      rw [this]
      simp
theorem jn_nil {R : List (List UInt8)} (h : ∀ p ∈ R, p ≠ []) (e : jn R = []) : R = [] := by
  cases R with
  | nil => rfl
  | cons a r =>
    cases r with
    | nil => exact absurd e (h a (by simp))
    | cons b s => simp [jn] at e
theorem wst_ne (R P : List (List UInt8)) (h : ∀ p ∈ R, p ≠ []) : ∀ p ∈ (wst R P).2, p ≠ [] := by
  induction P generalizing R with
  | nil => exact h
  | cons q Q ih =>
    unfold wst
    split
    · exact ih R h
    · split
      · split
        · intro p hp; simp at hp
        · exact ih _ (fun p hp => h p (List.dropLast_subset _ hp))
      · split
        · rename_i hq
          refine ih _ (fun p hp => ?_)
          rcases List.mem_append.1 hp with h1 | h1
          · exact h p h1
          · rw [List.mem_singleton.1 h1]
            intro e
            rw [e] at hq
            cases hq
        · intro p hp; simp at hp
theorem jn_len {R : List (List UInt8)} (h : ∀ p ∈ R, p.length ≤ 60) : (jn R).length ≤ 61 * R.length := by
  induction R with
  | nil => simp [jn]
  | cons a r ih =>
    have h1 := h a (by simp)
    have h2 := ih (fun p hp => h p (by simp [hp]))
    cases r with
    | nil => simp [jn]; omega
    | cons b s =>
      rw [jn, List.length_append, List.length_cons]
      simp only [List.length_cons] at *
      omega
theorem wst_part (R P : List (List UInt8)) (h : ∀ p ∈ R, p.length ≤ 60) (hP : ∀ p ∈ P, p.length ≤ 60) : ∀ p ∈ (wst R P).2, p.length ≤ 60 := by
  induction P generalizing R with
  | nil => exact h
  | cons q Q ih =>
    have hQ : ∀ p ∈ Q, p.length ≤ 60 := fun p hp => hP p (by simp [hp])
    unfold wst
    split
    · exact ih R h hQ
    · split
      · split
        · intro p hp; simp at hp
        · exact ih _ (fun p hp => h p (List.dropLast_subset _ hp)) hQ
      · split
        · refine ih _ (fun p hp => ?_) hQ
          rcases List.mem_append.1 hp with h1 | h1
          · exact h p h1
          · rw [List.mem_singleton.1 h1]
            exact hP q (by simp)
        · intro p hp; simp at hp
theorem bt_app (a b : List UInt8) : bt a ++ bt b = bt (a ++ b) := by
  apply ByteArray.ext
  rw [ByteArray.data_append]
  simp [bt]
theorem wst_len (R P : List (List UInt8)) : (wst R P).2.length ≤ R.length + P.length := by
  induction P generalizing R with
  | nil => exact Nat.le_refl _
  | cons q Q ih =>
    unfold wst
    split
    · have := ih R; simp; omega
    · split
      · split
        · simp
        · have := ih R.dropLast; rw [List.length_dropLast] at this; simp; omega
      · split
        · have := ih (R ++ [q]); rw [List.length_append] at this; simp at this ⊢; omega
        · simp
set_option maxHeartbeats 16000000 in
theorem sp_joined {va : Value} {R : List (List UInt8)} (hR : R.length ≤ 200) (hp : ∀ p ∈ R, p.length ≤ 60) (w : World) (ha : RowT w va R) :
    Calls Tryd.prog 27 #[va] w fun e w' => e = .returned (.string (bt (jn R))) ∧ w' = w := by
  obtain ⟨pa, ca, rfl, ha2⟩ := ha
  have hRI : (R.length : Int) ≤ 200 := by omega
  have HA : Hid (0 < R.length → ∃ a : Addr, pa = some a ∧ R.length ≤ ca ∧ ∀ j s, (stv R)[j]? = some s → w.cell? (a.add j) = some s) := ha2
  have HB : Hid (∀ p ∈ R, p.length ≤ 60) := hp
  clear hR ha2 hp
  go_enter Tryd.func27, Tryd.ntmps27
  go_wp2_with fail
  go_loopw [3, 8] (fun s3 s8 wr => ∃ (i : Nat), s3 = .string (bt (jn (R.take i))) ∧ s8 = .int .i64 (i : Int) ∧ i ≤ R.length ∧ wr = w) (fun _ s8 _ => R.length - (intOf s8).toNat)
  case atStart => exact ⟨0, rfl, rfl, Nat.zero_le _, rfl⟩
  case round =>
    obtain ⟨i, rfl, rfl, hil, rfl⟩ := hrel
    by_cases hi : i < R.length
    · have hiI : (i : Int) < (R.length : Int) := by omega
      obtain ⟨a, rfl, hca, hcel⟩ := (show 0 < R.length → _ from HA) (by omega)
      have d0 : wr.cell? (a.add i) = some (.string (bt R[i])) := hcel i _ (stv_at hi)
      have eT : R.take (i + 1) = R.take i ++ [R[i]] := List.take_succ_eq_append_getElem hi
      obtain ⟨D, hD⟩ : ∃ D, D = R.take i := ⟨_, rfl⟩
      obtain ⟨p, hp⟩ : ∃ p, p = R[i] := ⟨_, rfl⟩
      have hDl : D.length = i := by rw [hD, List.length_take]; omega
      rw [← hD] at eT ⊢
      rw [← hp] at d0 eT
      have b1 : (bt p).size ≤ 60 := by rw [bt_size, hp]; exact (show ∀ p ∈ R, _ from HB) _ (List.getElem_mem hi)
      have b2 : (bt (jn D)).size ≤ 12200 := by
        rw [bt_size]
        have := jn_len (R := D) (fun q hq => (show ∀ p ∈ R, _ from HB) q (by rw [hD] at hq; exact List.mem_of_mem_take hq))
        omega
      have b3 : ¬ 9223372036854775807 < (bt p).size := by omega
      have b4 : ¬ 9223372036854775807 < (bt (jn D)).size + 1 := by omega
      have b5 : ¬ 9223372036854775807 < (bt (jn D)).size + 1 + (bt p).size := by omega
      clear hca hcel hD hp HA hil HB b1 b2
      by_cases i0 : i = 0
      · subst i0
        obtain rfl := List.length_eq_zero_iff.1 hDl
        have d1 : wr.cell? a = some (.string (bt p)) := by have e7 : a.add 0 = a := by cases a; unfold Addr.add; split <;> simp_all
                                                           rw [← e7]; exact d0
        have e9 : bt (jn []) = ⟨#[]⟩ := rfl
        rw [e9]
        go_wp2_with fail
        go_roundw
        case rel => exact ⟨1, by rw [eT, show (⟨#[]⟩ : ByteArray) = bt [] from rfl, bt_app]; rfl, rfl, by omega, trivial⟩
        case measure => simp [intOf]; omega
      have i1 : 0 < i := by omega
      have i2 : ¬ (i : Int) ≤ 0 := by omega
      have i3 : (0 : Int) < (i : Int) := by omega
      have hDn : D ≠ [] := by intro q; rw [q] at hDl; simp at hDl; omega
      go_wp2_with fail
      go_roundw
      case rel => exact ⟨i + 1, by rw [eT, jn_app p hDn, show (⟨#[47]⟩ : ByteArray) = bt [47] from rfl, bt_app, bt_app, List.append_assoc]; rfl, by go_num, by omega, trivial⟩
      case measure => simp [intOf]; omega
    obtain rfl : i = R.length := by omega
    rw [List.take_length]
    clear HA hi hil HB
    go_wp2_with fail
    go_ret
    exact ⟨rfl, rfl⟩
end Go.Proofs.YtgocahalfanpjaaDoor.Fo
