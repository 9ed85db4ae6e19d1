import Derived.Test.YtiojjejphdhpeaaMDed
namespace Go.Proofs.Ytiojjejphdhpeaa.Fo
open Go.ChangeShapes Go.WideShapes Go.ChangeAt Go.RowKit
set_option linter.unusedVariables false
set_option maxRecDepth 100000
/-- those of the first k writes that are kept -/
def kl (Q : Nat → Ed) (kp : Nat → Bool) : Nat → List Ed
  | 0 => []
  | k + 1 => if kp k = true then kl Q kp k ++ [Q k] else kl Q kp k
/-- a list of writes as a row of them -/
def rw8 (l : List Ed) : Nat → Ed := fun j => l.getD j default
theorem rw8_lt (l : List Ed) (x : Ed) {j : Nat} (h : j < l.length) : rw8 (l ++ [x]) j = rw8 l j := by
  unfold rw8
  rw [List.getD_eq_getElem?_getD, List.getD_eq_getElem?_getD, List.getElem?_append_left h]
theorem rw8_last (l : List Ed) (x : Ed) : rw8 (l ++ [x]) l.length = x := by
  unfold rw8
  rw [List.getD_eq_getElem?_getD, List.getElem?_append_right (Nat.le_refl _), Nat.sub_self]
  rfl
theorem kl_len (Q : Nat → Ed) (kp : Nat → Bool) : ∀ k, (kl Q kp k).length ≤ k
  | 0 => Nat.le_refl _
  | k + 1 => by
    have := kl_len Q kp k
    rw [kl]
    split
    · rw [List.length_append]; simp; omega
    · omega
theorem kl_mem (Q : Nat → Ed) (kp : Nat → Bool) : ∀ k x, x ∈ kl Q kp k → ∃ j, j < k ∧ x = Q j
  | 0, x, h => by cases h
  | k + 1, x, h => by
    rw [kl] at h
    split at h
    · rcases List.mem_append.1 h with h | h
      · obtain ⟨j, h1, h2⟩ := kl_mem Q kp k x h
        exact ⟨j, by omega, h2⟩
      · exact ⟨k, by omega, by simpa using h⟩
    · obtain ⟨j, h1, h2⟩ := kl_mem Q kp k x h
      exact ⟨j, by omega, h2⟩
theorem stl_ext (P : Nat → Nat → Int) {Q Q' : Nat → Ed} : ∀ m, (∀ j, j < m → Q j = Q' j) → stl P Q m = stl P Q' m
  | 0, _ => rfl
  | m + 1, h => by rw [stl, stl, stl_ext P m (fun j hj => h j (by omega)), h m (by omega)]
/-- settling the kept ones -/
theorem stl_kl (P : Nat → Nat → Int) (Q : Nat → Ed) (kp : Nat → Bool) : ∀ m, stl P (rw8 (kl Q kp m)) (kl Q kp m).length = stk P Q kp m
  | 0 => rfl
  | m + 1 => by
    rw [kl, stk]
    by_cases h : kp m = true
    · rw [if_pos h, if_pos h, List.length_append, List.length_singleton, stl, rw8_last, stl_ext P _ (fun j hj => rw8_lt _ _ hj), stl_kl P Q kp m]
    · rw [if_neg h, if_neg h]
      exact stl_kl P Q kp m
theorem pcl_snoc (l : List Ed) (x : Ed) : pcl (rw8 (l ++ [x])) (l ++ [x]).length = pcl (rw8 l) l.length ++ (.int .i64 x.b :: pgl x.A) := by
  rw [List.length_append, List.length_singleton, pcl, rw8_last, pcl_ext l.length (fun j hj => rw8_lt l x hj)]
end Go.Proofs.Ytiojjejphdhpeaa.Fo
