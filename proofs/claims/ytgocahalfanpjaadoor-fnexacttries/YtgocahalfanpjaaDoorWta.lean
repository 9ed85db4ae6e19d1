import Derived.Test.YtgocahalfanpjaaDoorCnh
import Derived.Test.YtgocahalfanpjaaDoorCne
import Derived.Lib.SplitLaws
namespace Go.Proofs.YtgocahalfanpjaaDoor.Fo
open Go.ChangeShapes Go.WideShapes Go.ChangeAt Go.RowKit
set_option linter.unusedVariables false
set_option maxRecDepth 100000

/-- what strings.Split cuts at a slash -/
theorem spB_count (l : List UInt8) : (spB l).length = l.count 47 + 1 := by
  induction l with
  | nil => rfl
  | cons b r ih =>
    unfold spB
    by_cases h : b = 47
    · subst h
      rw [if_pos rfl, List.count_cons_self, List.length_cons, ih]
    · rw [if_neg h, List.count_cons_of_ne (fun e => h e)]
      cases e : spB r with
      | nil => exact absurd e (spB_ne r)
      | cons q qs => rw [e] at ih; exact ih
theorem bt_ext0 (l : List UInt8) (k : Nat) : (bt l).extract 0 k = bt (l.take k) := by
  refine ByteArray.ext (Array.ext' ?_)
  rw [Lib.extract_from_zero]
  rfl
theorem bt_ext1 (l : List UInt8) (k : Nat) : (bt l).extract k (bt l).size = bt (l.drop k) := by
  refine ByteArray.ext (Array.ext' ?_)
  rw [Lib.extract_to_end]
  rfl
theorem ixB_bt (l : List UInt8) : Lib.indexB (bt l) ⟨#[47]⟩ = Lib.indexByte l 47 := by
  show Lib.index l [47] = _
  exact Lib.index_one l 47
theorem splitB_sp : ∀ (k : Nat) (l : List UInt8), (spB l).length ≤ k + 1 → Lib.splitB ⟨#[47]⟩ 0 k (bt l) = (spB l).map bt
  | k, l, hk => by
    rcases Int.lt_or_le (Lib.indexByte l 47) 0 with h | h
    · have h1 : Lib.indexByte l 47 = -1 := by have := Lib.indexByte_ge l 47; omega
      rw [Lib.splitB_miss _ _ _ _ ((ixB_bt l).trans h1), ix_none h]
      rfl
    · obtain ⟨i, hi⟩ : ∃ i : Nat, Lib.indexByte l 47 = (i : Int) := ⟨(Lib.indexByte l 47).toNat, by omega⟩
      obtain ⟨h1, h2⟩ := ix_some hi
      rw [h2] at hk ⊢
      have hp : 0 < (spB (l.drop (i + 1))).length := List.length_pos_iff.2 (spB_ne _)
      obtain ⟨k', rfl⟩ : ∃ k', k = k' + 1 := ⟨k - 1, by simp at hk; omega⟩
      rw [Lib.splitB_hit _ _ _ _ i ((ixB_bt l).trans hi), List.map_cons]
      have e1 : (bt l).extract 0 (i + 0) = bt (l.take i) := bt_ext0 l i
      have e2 : (bt l).extract (i + (⟨#[47]⟩ : ByteArray).size) (bt l).size = bt (l.drop (i + 1)) := bt_ext1 l (i + 1)
      rw [e1, e2, splitB_sp k' (l.drop (i + 1)) (by simp at hk ⊢; omega)]
  termination_by k => k
/-- a part with no slash, put ahead of what is cut -/
theorem spB_pre : ∀ (p r : List UInt8), (∀ b ∈ p, b ≠ 47) → spB (p ++ r) = att p (spB r)
  | [], r, _ => (att_nil (spB_ne r)).symm
  | b :: p, r, h => by
    rw [List.cons_append, spB, if_neg (h b (List.mem_cons_self)), spB_pre p r (fun c hc => h c (List.mem_cons_of_mem _ hc))]
    cases e : spB r with
    | nil => exact absurd e (spB_ne r)
    | cons q qs => rfl
theorem okb_47 : okb 47 = false := by decide
theorem okp_ne47 {p : List UInt8} (h : okp p = true) : ∀ b ∈ p, b ≠ 47 := by
  intro b hb e
  unfold okp at h
  simp at h
  have := h.2 b hb
  rw [e, okb_47] at this
  cases this
theorem spB_jn : ∀ (R : List (List UInt8)), R ≠ [] → (∀ p ∈ R, okp p = true) → spB (jn R) = R
  | [], h, _ => absurd rfl h
  | [p], _, h => by
    show spB p = [p]
    have := spB_pre p [] (okp_ne47 (h p (List.mem_singleton.2 rfl)))
    rw [List.append_nil] at this
    rw [this]
    show [p ++ []] = [p]
    rw [List.append_nil]
  | p :: q :: r, _, h => by
    show spB (p ++ 47 :: jn (q :: r)) = _
    rw [spB_pre p _ (okp_ne47 (h p (List.mem_cons_self))), att_47, spB_jn (q :: r) (by simp) (fun x hx => h x (List.mem_cons_of_mem _ hx))]
/-- all parts of a row that was walked are parts of a name -/
theorem wst_okp : ∀ (P R : List (List UInt8)), (∀ p ∈ R, okp p = true) → ∀ p ∈ (wst R P).2, okp p = true
  | [], R, h => h
  | x :: P, R, h => by
    unfold wst
    split
    · exact wst_okp P R h
    · split
      · split
        · intro p hp; cases hp
        · exact wst_okp P R.dropLast (fun p hp => h p ((List.dropLast_sublist _).subset hp))
      · split
        · rename_i ho
          refine wst_okp P (R ++ [x]) (fun p hp => ?_)
          rcases List.mem_append.1 hp with q | q
          · exact h p q
          · rw [List.mem_singleton.1 q]; exact ho
        · intro p hp; cases hp
/-- what a clean name is made of -/
theorem cln_row {l m : List UInt8} (h : cln [] l = (0, m)) : m.length ≤ 60 ∧ m ≠ [] ∧ ∃ R : List (List UInt8), R ≠ [] ∧ (∀ p ∈ R, okp p = true) ∧ m = jn R ∧ spB m = R := by
  unfold cln at h
  split at h
  · simp at h
  split at h
  · rename_i h1 h2
    simp at h
    exact absurd h.1 h2
  split at h
  · simp at h
  split at h
  · simp at h
  rename_i h1 h2 h3 h4
  have hm : m = jn (wst [] (spB l)).2 := by simpa using h.symm
  have ho := wst_okp (spB l) [] (fun p hp => (nomatch hp))
  refine ⟨by rw [hm]; omega, ?_, (wst [] (spB l)).2, h3, ho, hm, by rw [hm]; exact spB_jn _ h3 ho⟩
  intro e
  have := spB_jn _ h3 ho
  rw [← hm, e] at this
  have hx := ho [] (by rw [← this]; simp [spB])
  simp [okp] at hx
/-- the row in which a module stands -/
def frow (m : List UInt8) : List (List UInt8) := (spB m).dropLast
theorem frow_ok {l m : List UInt8} (h : cln [] l = (0, m)) : (frow m).length ≤ 60 ∧ (∀ p ∈ frow m, p.length ≤ 60) ∧ (∀ p ∈ frow m, p ≠ []) ∧ (spB m).length = (frow m).length + 1 ∧ m.length ≤ 60 := by
  obtain ⟨h1, h2, R, h3, h4, h5, h6⟩ := cln_row h
  have hl := spB_len m
  have hn : 0 < (spB m).length := List.length_pos_iff.2 (spB_ne m)
  have e : (frow m).length = (spB m).length - 1 := List.length_dropLast
  refine ⟨by omega, fun p hp => ?_, fun p hp => ?_, by omega, h1⟩
  · have := spB_part m p ((List.dropLast_sublist _).subset hp)
    omega
  · intro q
    have hp' : p ∈ R := by rw [← h6]; exact (List.dropLast_sublist _).subset hp
    have := h4 p hp'
    rw [q] at this
    simp [okp] at this
/-- what Within answers -/
def wth (f l : List UInt8) : Int × List UInt8 := if (cln [] f).1 = 0 then cln (frow (cln [] f).2) l else (4, [])
end Go.Proofs.YtgocahalfanpjaaDoor.Fo
