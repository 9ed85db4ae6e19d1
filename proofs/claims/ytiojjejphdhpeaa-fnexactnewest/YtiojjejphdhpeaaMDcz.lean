import Derived.Test.YtiojjejphdhpeaaMKab
namespace Go.Proofs.Ytiojjejphdhpeaa.Fo
set_option linter.unusedVariables false
set_option maxRecDepth 100000
/-- a list of so many zero bytes and a nil slice -/
def isZ : List Value → Nat → Bool
  | .int .u8 x :: r, n + 1 => x == 0 && isZ r n
  | [.slice none 0 0], 0 => true
  | _, _ => false
theorem isZ_eq : ∀ (l : List Value) (n : Nat), isZ l n = true → l = List.replicate n (.int .u8 0) ++ [.slice none 0 0]
  | [], n, h => by unfold isZ at h; cases h
  | v :: r, n, h => by
    unfold isZ at h
    split at h
    · rename_i x r' m e
      injection e with e1 e2
      subst e1 e2
      simp only [Bool.and_eq_true, beq_iff_eq] at h
      rw [isZ_eq _ _ h.2, h.1]
      rfl
    · rename_i e
      injection e with e1 e2
      subst e1 e2
      rfl
    · cases h
def chkZ : Option TypeInfo → Bool
  | some i => match i.zero with
    | some (.agg a) => isZ a.toList 16512
    | _ => false
  | none => false
theorem chk_eq {o : Option TypeInfo} (h : chkZ o = true) : ∃ i, o = some i ∧ i.zero = some (Value.agg (List.replicate 16512 (Value.int .u8 0) ++ [Value.slice none 0 0]).toArray) := by
  unfold chkZ at h
  split at h
  · rename_i i
    split at h
    · rename_i a e
      refine ⟨i, rfl, ?_⟩
      rw [e, ← isZ_eq _ _ h]
    · cases h
  · cases h
theorem drv_size : (Try.prog.info? 124).map (·.size) = some 16513 := by kernel_rfl
theorem drv_zero : chkZ (Try.prog.info? 124) = true := by kernel_rfl
end Go.Proofs.Ytiojjejphdhpeaa.Fo
