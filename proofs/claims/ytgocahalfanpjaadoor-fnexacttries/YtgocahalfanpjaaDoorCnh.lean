import Derived.Test.YtgocahalfanpjaaDoorCng
namespace Go.Proofs.YtgocahalfanpjaaDoor.Fo
open Go.ChangeShapes Go.WideShapes Go.ChangeAt Go.RowKit
set_option linter.unusedVariables false
set_option maxRecDepth 100000

/-- where the first slash stands -/
theorem ix_none {l : List UInt8} (h : Lib.indexByte l 47 < 0) : spB l = [l] := by
  induction l with
  | nil => rfl
  | cons b r ih =>
    unfold Lib.indexByte at h
    have hb : b ≠ 47 := by
      intro e
      rw [e] at h
      simp at h
    rw [if_neg (by simpa using hb)] at h
    have hr : Lib.indexByte r 47 < 0 := by
      have := Lib.indexByte_ge r 47
      split at h
      · rename_i q
        have : Lib.indexByte r 47 = -1 := by simpa using q
        omega
      · omega
    rw [spB, if_neg hb, ih hr]
theorem ix_some {l : List UInt8} {k : Nat} (h : Lib.indexByte l 47 = (k : Int)) : k < l.length ∧ spB l = l.take k :: spB (l.drop (k + 1)) := by
  induction l generalizing k with
  | nil => unfold Lib.indexByte at h; omega
  | cons b r ih =>
    unfold Lib.indexByte at h
    by_cases hb : b = 47
    · subst hb
      simp at h
      obtain rfl : k = 0 := by omega
      exact ⟨by simp, by rw [spB, if_pos rfl]; rfl⟩
    · rw [if_neg (by simpa using hb)] at h
      split at h
      · omega
      · obtain ⟨j, rfl⟩ : ∃ j, k = j + 1 := ⟨k - 1, by have := Lib.indexByte_ge r 47; rename_i q; have : Lib.indexByte r 47 ≠ -1 := by simpa using q
                                                       omega⟩
        obtain ⟨q1, q2⟩ := ih (k := j) (by omega)
        refine ⟨by simp; omega, ?_⟩
        rw [spB, if_neg hb, q2]
        rfl
set_option maxHeartbeats 16000000 in
theorem im_ixl (l : List UInt8) (hl : l.length ≤ 60) (w : World) : Calls Tryd.prog 45 #[.string (bt l), .string ⟨#[47]⟩] w fun e w' => e = .returned (.int .i64 (Lib.indexByte l 47)) ∧ w' = w := by
  have h : Calls Tryd.prog 51 #[.string (bt l), .int .u8 47] w fun e w' => e = .returned (.int .i64 (Lib.indexByte l 47)) ∧ w' = w := im_ixs (bt l) 47 w
  by_cases q : l = [47]
  · subst q
    have e0 : bt [47] = ⟨#[47]⟩ := rfl
    have e1 : Lib.indexByte [47] 47 = 0 := by decide
    rw [e0, e1]
    clear h
    go_enter Tryd.func45, Tryd.ntmps45
    go_wp2_with fail
    go_ret
    exact ⟨rfl, rfl⟩
  have ebl : (bt l).toList = l := bt_list l
  have e2 : ([47] == l) = false := by simpa using fun e => q e.symm
  go_enter Tryd.func45, Tryd.ntmps45
  go_wp2_with fail
  refine h.mono ?_
  rintro e w' ⟨rfl, rfl⟩
  go_wp2_with fail
  go_ret
  exact ⟨rfl, rfl⟩
set_option maxHeartbeats 16000000 in
theorem im_index (l : List UInt8) (hl : l.length ≤ 60) (w : World) : Calls Tryd.prog 38 #[.string (bt l), .string ⟨#[47]⟩] w fun e w' => e = .returned (.int .i64 (Lib.indexByte l 47)) ∧ w' = w := by
  have h := im_ixl l hl w
  go_enter Tryd.func38, Tryd.ntmps38
  go_wp2_with fail
  refine h.mono ?_
  rintro e w' ⟨rfl, rfl⟩
  go_wp2_with fail
  go_ret
  exact ⟨rfl, rfl⟩
end Go.Proofs.YtgocahalfanpjaaDoor.Fo
