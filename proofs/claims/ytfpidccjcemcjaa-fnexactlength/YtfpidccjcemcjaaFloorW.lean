import Derived.Test.YtfpidccjcemcjaaProg
import GoSem.Claim
import GoSem.ClaimJoined
import GoSem.ClaimMapViews
import Derived.JoinedTies
import Derived.KernelRfl
import Derived.WalkKit
import Derived.ProofKit
import Derived.OpenShut
import Derived.Handy
import Derived.Laws.Externs
import Derived.Laws.FloatArith
import Derived.Test.YtfpidccjcemcjaaFly
namespace Go.Proofs.Ytfpidccjcemcjaa
open Go.ChangeShapes Go.WideShapes Go.ChangeAt Go.RowKit
set_option linter.unusedVariables false
set_option maxRecDepth 100000
theorem lt_of_wf {x : Nat} (h : (Lit.float .f64 x).wf = true) : x < 18446744073709551616 := by
  simpa [Lit.wf] using h
theorem Grown.trans {a b c : World} (h : Grown a b) (g : Grown b c) : Grown a c :=
  ⟨World.keptBut_trans h.1 g.1, fun x => (g.2.1 x).trans (h.2.1 x), Nat.le_trans h.2.2 g.2.2⟩
theorem conv_run {x : Nat} {z : Int} (h : floatToIntVal .f64 x .i64 = some z) (w : World) : (convert 22 2 (.float .f64 x)).run Try.prog w = .ok (.int .i64 z) w :=
  run_convert_float_int w 22 2 .f64 .i64 x z (by kernel_rfl) Try.underlying2 h
set_option maxHeartbeats 1000000 in
theorem spec_floor (x : Nat) (hx : x < 18446744073709551616) (w : World) (hn : FloatKind.f64.format.order x x = some .eq) :
    Calls Try.prog 34 #[.float .f64 x] w fun e w' => e = .returned (.float .f64 (Flt.floorW x)) ∧ w' = w := by
  rcases Flt.floor_facts x hx with h | ⟨_, hf, h | ⟨h1, h2 | ⟨h2, h3⟩⟩⟩ | ⟨_, h1, h2, h3, z, hz, ⟨h4, h5⟩ | ⟨h4, h5⟩⟩
  · rw [hn] at h; cases h
  · rw [hf]
    clear hf
    go_enter Try.func34, Try.ntmps34
    go_wp2_with go_in
    go_ret
    exact ⟨rfl, rfl⟩
  · rw [hf]
    clear hf
    rcases h1 with h1 | h1 <;> rcases h2 with h2 | h2
    all_goals
      go_enter Try.func34, Try.ntmps34
      go_wp2_with go_in
      go_ret
      exact ⟨rfl, rfl⟩
  · rw [hf]
    clear hf
    rcases h1 with h1 | h1 <;> rcases h3 with h3 | h3
    all_goals
      go_enter Try.func34, Try.ntmps34
      go_wp2_with go_in
      go_ret
      exact ⟨rfl, rfl⟩
  · have hc := conv_run hz
    rw [← h5]
    clear h5 hz
    change (FloatKind.f64.format.order (floatOfInt .f64 z) x = some .eq ∨ FloatKind.f64.format.order (floatOfInt .f64 z) x = some .lt) at h4
    show Calls Try.prog 34 #[.float .f64 x] w fun e w' => e = .returned (.float .f64 (floatOfInt .f64 z)) ∧ w' = w
    rcases h1 with h1 | h1 <;> rcases h4 with h4 | h4
    all_goals
      go_enter Try.func34, Try.ntmps34
      go_wp2_with go_in
      go_ret
      exact ⟨rfl, rfl⟩
  · have hc := conv_run hz
    have hs : ∀ w, (binOp .sub 22 (.float .f64 (floatOfInt .f64 z)) (.float .f64 4607182418800017408)).run Try.prog w = .ok (.float .f64 (Flt.floorW x)) w := fun w => run_float_arith w .sub 22 .f64 _ _ _ h5
    clear h5 hz
    change FloatKind.f64.format.order (floatOfInt .f64 z) x = some .gt at h4
    rcases h1 with h1 | h1
    all_goals
      go_enter Try.func34, Try.ntmps34
      go_wp2_with go_in
      go_ret
      exact ⟨rfl, rfl⟩
theorem spec_floor_nan (x : Nat) (w : World) (hn : FloatKind.f64.format.order x x = none) :
    Calls Try.prog 34 #[.float .f64 x] w fun e w' => e = .returned (.float .f64 x) ∧ w' = w := by
  go_enter Try.func34, Try.ntmps34
  go_wp2_with go_in
  go_ret
  exact ⟨rfl, rfl⟩
theorem entry (n : String) (way : Ieee.Toward) (x : Nat) : ∃ q : Question, Extern.MathFloor.toIntegral n way #[.float .f64 x] =
    (match FloatKind.f64.decode x with
    | .nan s t => if FloatKind.f64.format.quiet t = t then pure (.float .f64 x) else do
        let k ← choose q
        pure (.float .f64 (if k == 1 then x else FloatKind.f64.encode (.nan s (FloatKind.f64.format.quiet t))))
    | d => pure (.float .f64 (FloatKind.f64.encode (d.integral way)))) := ⟨_, rfl⟩
theorem arch_floor (x : Nat) (w : World) (hn : FloatKind.f64.format.order x x = some .eq) :
    (callFunc 86 #[.float .f64 x]).run Try.prog w = .ok (.value (.float .f64 (Flt.floorW x))) w := by
  rw [run_callFunc_extern (e := Extern.MathFloor.toIntegral "math.archFloor" .down) Try.func86 (by kernel_rfl) (by kernel_rfl) (by kernel_rfl) (by kernel_rfl)]
  obtain ⟨q, hq⟩ := entry "math.archFloor" .down x
  rw [hq]
  have e : ∀ d, FloatKind.f64.decode x = d → Flt.floorW x = FloatKind.f64.encode (d.integral .down) := by
    intro d hd
    subst hd
    rfl
  generalize hd : FloatKind.f64.decode x = d
  have he := e d hd
  cases d with
  | nan s t =>
    exfalso
    unfold Ieee.Format.order at hn
    change Ieee.Datum.order (FloatKind.f64.decode x) (FloatKind.f64.decode x) = _ at hn
    rw [hd] at hn
    cases hn
  | infinity s => simp [he]
  | number s m k => simp [he]
theorem arch_floor_nan (x : Nat) (w : World) (hn : FloatKind.f64.format.order x x = none) :
    ∃ y w', (callFunc 86 #[.float .f64 x]).run Try.prog w = .ok (.value (.float .f64 y)) w' ∧ FloatKind.f64.format.order y y = none ∧ (w' = w ∨ w' = w.drew) := by
  rw [run_callFunc_extern (e := Extern.MathFloor.toIntegral "math.archFloor" .down) Try.func86 (by kernel_rfl) (by kernel_rfl) (by kernel_rfl) (by kernel_rfl)]
  obtain ⟨q, hq⟩ := entry "math.archFloor" .down x
  rw [hq]
  generalize hd : FloatKind.f64.decode x = d
  have hn2 : d.order d = none := by rw [← hd]; exact hn
  cases d with
  | nan s t =>
    by_cases hq : FloatKind.f64.format.quiet t = t
    · simp only [hq, if_true]
      exact ⟨x, w, by simp, hn, Or.inl rfl⟩
    · simp only [hq, if_false, Sem.run_bind, run_choose_drew]
      by_cases hf : q.forced = true
      · simp only [hf, if_true, Result.andThen]
        exact ⟨_, _, by simp; rfl, Flt.quiet_nan s t, Or.inl rfl⟩
      · have hf2 : q.forced = false := by simpa using hf
        simp only [hf2, Bool.false_eq_true, if_false, Result.andThen]
        refine ⟨_, _, by simp only [Sem.run_pure]; rfl, ?_, Or.inr rfl⟩
        split
        · exact hn
        · exact Flt.quiet_nan s t
  | infinity s => simp [Ieee.Datum.order] at hn2
  | number s m k => simp [Ieee.Datum.order] at hn2
theorem math_floor (x : Nat) (w : World) (hn : FloatKind.f64.format.order x x = some .eq) :
    Calls Try.prog 84 #[.float .f64 x] w fun e w' => e = .returned (.float .f64 (Flt.floorW x)) ∧ w' = w := by
  have ha := fun w => arch_floor x w hn
  go_enter Try.func84, Try.ntmps84
  go_wp2
  go_ret
  exact ⟨rfl, rfl⟩
theorem math_floor_nan (x : Nat) (w : World) (hn : FloatKind.f64.format.order x x = none) :
    Calls Try.prog 84 #[.float .f64 x] w fun e w' => ∃ y, e = .returned (.float .f64 y) ∧ FloatKind.f64.format.order y y = none ∧ Grown w w' := by
  obtain ⟨y, w1, h1, h2, h3⟩ := arch_floor_nan x w hn
  go_enter Try.func84, Try.ntmps84
  go_wp2
  go_ret
  refine ⟨_, rfl, h2, ?_⟩
  rcases h3 with rfl | rfl
  · exact Grown.refl _
  · exact Grown.drew (Grown.refl _)
theorem same_nan (x y : Nat) (w : World) (hx : FloatKind.f64.format.order x x = none) (hy : FloatKind.f64.format.order y y = none) :
    Calls Try.prog 47 #[.float .f64 x, .float .f64 y] w fun e w' => e = .returned (.bool true) ∧ w' = w := by
  go_enter Try.func47, Try.ntmps47
  go_wp2
  go_ret
  exact ⟨rfl, rfl⟩
theorem quo_run {x r : Nat} (h : floatBits .quo .f64 4607182418800017408 x = some r) (w : World) : (binOp .quo 22 (.float .f64 4607182418800017408) (.float .f64 x)).run Try.prog w = .ok (.float .f64 r) w :=
  run_float_arith w .quo 22 .f64 _ _ _ h
set_option maxHeartbeats 1000000 in
theorem same_eq (x : Nat) (hx : x < 18446744073709551616) (w : World) :
    Calls Try.prog 47 #[.float .f64 x, .float .f64 x] w fun e w' => e = .returned (.bool true) ∧ w' = w := by
  rcases Flt.zero_cases x hx with h | ⟨h, h0, hz⟩ | ⟨h, h0⟩
  · exact same_nan x x w h h
  · rcases hz with rfl | rfl
    · have hq := quo_run (x := 0) (r := 9218868437227405312) (by decide)
      have hg : FloatKind.f64.format.order 9218868437227405312 0 = some .gt := by decide
      go_enter Try.func47, Try.ntmps47
      go_wp2
      go_ret
      exact ⟨rfl, rfl⟩
    · have hq := quo_run (x := 9223372036854775808) (r := 18442240474082181120) (by decide)
      have hg : FloatKind.f64.format.order 18442240474082181120 0 = some .lt := by decide
      go_enter Try.func47, Try.ntmps47
      go_wp2
      go_ret
      exact ⟨rfl, rfl⟩
  · rcases h0 with h0 | h0
    all_goals
      go_enter Try.func47, Try.ntmps47
      go_wp2
      go_ret
      exact ⟨rfl, rfl⟩
end Go.Proofs.Ytfpidccjcemcjaa
