import Derived.Test.YtabffkfoafcmpabDoorHey
import Derived.Deep.QuietTactic
import Derived.BigQuiet
import Derived.Deep.RegionWith
namespace Go.Proofs.YtabffkfoafcmpabDoor
open Go.ChangeShapes Go.WideShapes Go.ChangeAt Go.RowKit
set_option linter.unusedVariables false
/-- the text of a number -/
def hexT (s : Bool) (c d : Int) : ByteArray := ⟨(sgn s).toArray⟩ ++ ⟨#[48, 120]⟩ ++ ⟨(wrt 16 c.toNat).toArray⟩ ++ ⟨#[112]⟩ ++ ⟨(wri 10 d).toArray⟩
theorem kept_drewN (w : World) (n : Nat) : Kept w (w.drewN n) := by
  have h2 : Below w.heap.size w (w.drewN n) := ⟨rfl, rfl, rfl, Nat.le_refl _, fun j hj => rfl⟩
  exact h2.frame _
theorem spec_hex_nan (x : Nat) (hn : ∀ y, FloatKind.f64.format.order x y = none) (w : World) :
    Calls Tryd.prog 8 #[.float .f64 x] w fun e w' => e = .returned (.string ⟨#[110, 97, 110]⟩) ∧ Kept w w' := by
  have H1 := size_nan x hn
  have H2 := odd_nan x (hn x)
  go_enter Tryd.func8, Tryd.ntmps8
  go_wp2_with fail
  refine (H1 _).mono ?_
  rintro e w' ⟨rfl, rfl⟩
  go_wp2_with fail
  refine (H2 _).mono ?_
  rintro e w2 ⟨rfl, rfl⟩
  clear H1 H2 hn
  go_wp2_with fail
  go_ret
  exact ⟨rfl, Kept.refl _⟩
theorem spec_hex_inf (s : Bool) (x y : Nat) (H1 : ∀ w, Calls Tryd.prog 16 #[.float .f64 x] w fun e w' => e = .returned (.tuple #[.float .f64 9218868437227405312, .string ⟨(sgn s).toArray⟩]) ∧ w' = w) (w : World) :
    Calls Tryd.prog 8 #[.float .f64 x] w fun e w' => e = .returned (.string (⟨(sgn s).toArray⟩ ++ ⟨#[105, 110, 102]⟩)) ∧ Kept w w' := by
  have H2 := odd_inf
  have hl : (sgn s).length ≤ 1 := by cases s <;> simp [sgn]
  generalize sgn s = S at *
  go_enter Tryd.func8, Tryd.ntmps8
  go_wp2_with fail
  refine (H1 _).mono ?_
  rintro e w' ⟨rfl, rfl⟩
  go_wp2_with fail
  refine (H2 _).mono ?_
  rintro e w2 ⟨rfl, rfl⟩
  clear H1 H2
  go_wp2_with fail
  go_ret
  exact ⟨rfl, Kept.refl _⟩
theorem spec_hex_num (s z : Bool) (a c d : Int) (x y : Nat) (hc0 : 0 ≤ c) (hc1 : c ≤ 9007199254740992) (hd0 : -3000 ≤ d) (hd1 : d ≤ 3000)
    (H1 : ∀ w, Calls Tryd.prog 16 #[.float .f64 x] w fun e w' => e = .returned (.tuple #[.float .f64 y, .string ⟨(sgn s).toArray⟩]) ∧ w' = w)
    (H2 : ∀ w, Calls Tryd.prog 17 #[.float .f64 y] w fun e w' => e = .returned (.tuple #[.string ⟨#[48]⟩, .bool z]) ∧ w' = w)
    (H3 : ∀ w, Calls Tryd.prog 5 #[.float .f64 y] w fun e w' => e = .returned (.agg #[.int .i64 a, .bool false, .int .i64 c, .int .i64 d]) ∧ Grown w w') (w : World) :
    Calls Tryd.prog 8 #[.float .f64 x] w fun e w' => e = .returned (.string (hexT s c d)) ∧ Kept w w' := by
  have hl : (sgn s).length ≤ 1 := by cases s <;> simp [sgn]
  have hl2 := wrt_len 16 c.toNat (by omega) (by omega)
  have hl3 : (wri 10 d).length ≤ 65 := by
    unfold wri
    split
    · have := wrt_len 10 (-d).toNat (by omega) (by omega); simp; omega
    · have := wrt_len 10 d.toNat (by omega) (by omega); omega
  have e1 : wri 16 c = wrt 16 c.toNat := by unfold wri; rw [if_neg (by omega)]
  have H4 := fun w => spec_int c 16 (by omega) (by omega) (by omega) (by omega) w
  rw [e1] at H4
  have H5 := fun w => spec_int d 10 (by omega) (by omega) (by omega) (by omega) w
  unfold hexT
  clear e1
  generalize wrt 16 c.toNat = A at *
  generalize wri 10 d = B at *
  generalize sgn s = S at *
  have H4' : ∀ w, Calls Tryd.prog 18 #[.int .i64 c, .int .i64 16] w fun e w' => e = .returned (.string ⟨A.toArray⟩) ∧ w' = w := H4
  have H5' : ∀ w, Calls Tryd.prog 18 #[.int .i64 d, .int .i64 10] w fun e w' => e = .returned (.string ⟨B.toArray⟩) ∧ w' = w := H5
  clear H4 H5
  cases z
  all_goals
    go_enter Tryd.func8, Tryd.ntmps8
    go_wp2_with fail
    refine (H1 _).mono ?_
    rintro e w' ⟨rfl, rfl⟩
    go_wp2_with fail
    refine (H2 _).mono ?_
    rintro e w2 ⟨rfl, rfl⟩
    clear H1 H2
    go_wp2_with fail
    refine (H3 _).mono ?_
    rintro e w3 ⟨rfl, hg⟩
    clear H3
    go_wp2_with fail
    go_quiet ((first | (go_at_call_of 18 c; exact Calls.quiet_of_same (H4' _)) | (go_at_call_of 18 d; exact Calls.quiet_of_same (H5' _))))
    go_wp2_with fail
    go_ret
    exact ⟨rfl, Kept.trans (show Kept _ _ from (Grown.alloc hg _ _).1) (kept_drewN _ _)⟩
theorem word_nan (b : Bool) (c d : Int) (w : World) :
    Calls Tryd.prog 19 #[.agg #[.int .i64 3, .bool b, .int .i64 c, .int .i64 d]] w fun e w' => e = .returned (.string ⟨#[110, 97, 110]⟩) ∧ Kept w w' := by
  go_enter Tryd.func19, Tryd.ntmps19
  go_wp2
  go_ret
  exact ⟨rfl, (Grown.alloc (Grown.refl _) _ _).1⟩
theorem word_inf (s : Bool) (c d : Int) (w : World) :
    Calls Tryd.prog 19 #[.agg #[.int .i64 2, .bool s, .int .i64 c, .int .i64 d]] w fun e w' => e = .returned (.string (⟨(sgn s).toArray⟩ ++ ⟨#[105, 110, 102]⟩)) ∧ Kept w w' := by
  have hl : (sgn s).length ≤ 1 := by cases s <;> simp [sgn]
  have H := fun w => minus_run 2 c d s w
  generalize sgn s = S at *
  go_enter Tryd.func19, Tryd.ntmps19
  go_wp2_with fail
  refine (H _).mono ?_
  rintro e w2 ⟨rfl, hk⟩
  clear H
  go_wp2_with fail
  go_ret
  exact ⟨rfl, Kept.trans (show Kept _ _ from (Grown.alloc (Grown.refl _) _ _).1) hk⟩
theorem impl_hex_nan (x : Nat) (hn : FloatKind.f64.format.order x x = none) (w : World) :
    Calls Tryd.prog 9 #[.float .f64 x] w fun e w' => e = .returned (.string ⟨#[110, 97, 110]⟩) ∧ Kept w w' := by
  have H1 := impl_nan x hn
  clear hn
  go_enter Tryd.func9, Tryd.ntmps9
  go_wp2_with fail
  refine (H1 _).mono ?_
  rintro e w2 ⟨rfl, hg⟩
  clear H1
  go_wp2_with fail
  refine (word_nan _ _ _ _).mono ?_
  rintro e w3 ⟨rfl, hk⟩
  go_wp2_with fail
  go_ret
  exact ⟨rfl, Kept.trans (show Kept _ _ from (Grown.alloc hg _ _).1) hk⟩
theorem impl_hex_inf (x : Nat) (s : Bool) (H1 : ∀ w, Calls Tryd.prog 6 #[.float .f64 x] w fun e w' => e = .returned (.agg #[.int .i64 2, .bool s, .int .i64 0, .int .i64 0]) ∧ Grown w w') (w : World) :
    Calls Tryd.prog 9 #[.float .f64 x] w fun e w' => e = .returned (.string (⟨(sgn s).toArray⟩ ++ ⟨#[105, 110, 102]⟩)) ∧ Kept w w' := by
  have H2 := fun w => word_inf s 0 0 w
  generalize sgn s = S at *
  go_enter Tryd.func9, Tryd.ntmps9
  go_wp2_with fail
  refine (H1 _).mono ?_
  rintro e w2 ⟨rfl, hg⟩
  clear H1
  go_wp2_with fail
  refine (H2 _).mono ?_
  rintro e w3 ⟨rfl, hk⟩
  go_wp2_with fail
  go_ret
  exact ⟨rfl, Kept.trans (show Kept _ _ from (Grown.alloc hg _ _).1) hk⟩
end Go.Proofs.YtabffkfoafcmpabDoor
