import Derived.Test.YtladepgpandklaaDoorProg
import GoSem.Claim
import GoSem.ClaimJoined
import GoSem.ClaimMapViews
import Derived.JoinedTies
import Derived.KernelRfl
import Derived.WalkKit
import Derived.ProofKit
import Derived.OpenShut
import Derived.Handy
import Derived.Laws.Externs
import Derived.Laws.FloatArith
import Derived.Test.YtladepgpandklaaDoorFly
namespace Go.Proofs.YtladepgpandklaaDoor
open Go.ChangeShapes Go.WideShapes Go.ChangeAt Go.RowKit
set_option linter.unusedVariables false
set_option maxRecDepth 100000
theorem lt_of_wf {x : Nat} (h : (Lit.float .f64 x).wf = true) : x < 18446744073709551616 := by
  simpa [Lit.wf] using h
theorem Grown.trans {a b c : World} (h : Grown a b) (g : Grown b c) : Grown a c :=
  ⟨World.keptBut_trans h.1 g.1, fun x => (g.2.1 x).trans (h.2.1 x), Nat.le_trans h.2.2 g.2.2⟩
theorem conv_run {x : Nat} {z : Int} (h : floatToIntVal .f64 x .i64 = some z) (w : World) : (convert 22 2 (.float .f64 x)).run Tryd.prog w = .ok (.int .i64 z) w :=
  run_convert_float_int w 22 2 .f64 .i64 x z (by kernel_rfl) Tryd.underlying2 h
set_option maxHeartbeats 1000000 in
theorem spec_floor (x : Nat) (hx : x < 18446744073709551616) (w : World) (hn : FloatKind.f64.format.order x x = some .eq) :
    Calls Tryd.prog 18 #[.float .f64 x] w fun e w' => e = .returned (.float .f64 (Flt.floorW x)) ∧ w' = w := by
  rcases Flt.floor_facts x hx with h | ⟨_, hf, h | ⟨h1, h2 | ⟨h2, h3⟩⟩⟩ | ⟨_, h1, h2, h3, z, hz, ⟨h4, h5⟩ | ⟨h4, h5⟩⟩
  · rw [hn] at h; cases h
  · rw [hf]
    clear hf
    go_enter Tryd.func18, Tryd.ntmps18
    go_wp2_with go_in
    go_ret
    exact ⟨rfl, rfl⟩
  · rw [hf]
    clear hf
    rcases h1 with h1 | h1 <;> rcases h2 with h2 | h2
    all_goals
      go_enter Tryd.func18, Tryd.ntmps18
      go_wp2_with go_in
      go_ret
      exact ⟨rfl, rfl⟩
  · rw [hf]
    clear hf
    rcases h1 with h1 | h1 <;> rcases h3 with h3 | h3
    all_goals
      go_enter Tryd.func18, Tryd.ntmps18
      go_wp2_with go_in
      go_ret
      exact ⟨rfl, rfl⟩
  · have hc := conv_run hz
    rw [← h5]
    clear h5 hz
    change (FloatKind.f64.format.order (floatOfInt .f64 z) x = some .eq ∨ FloatKind.f64.format.order (floatOfInt .f64 z) x = some .lt) at h4
    show Calls Tryd.prog 18 #[.float .f64 x] w fun e w' => e = .returned (.float .f64 (floatOfInt .f64 z)) ∧ w' = w
    rcases h1 with h1 | h1 <;> rcases h4 with h4 | h4
    all_goals
      go_enter Tryd.func18, Tryd.ntmps18
      go_wp2_with go_in
      go_ret
      exact ⟨rfl, rfl⟩
  · have hc := conv_run hz
    have hs : ∀ w, (binOp .sub 22 (.float .f64 (floatOfInt .f64 z)) (.float .f64 4607182418800017408)).run Tryd.prog w = .ok (.float .f64 (Flt.floorW x)) w := fun w => run_float_arith w .sub 22 .f64 _ _ _ h5
    clear h5 hz
    change FloatKind.f64.format.order (floatOfInt .f64 z) x = some .gt at h4
    rcases h1 with h1 | h1
    all_goals
      go_enter Tryd.func18, Tryd.ntmps18
      go_wp2_with go_in
      go_ret
      exact ⟨rfl, rfl⟩
theorem spec_floor_nan (x : Nat) (w : World) (hn : FloatKind.f64.format.order x x = none) :
    Calls Tryd.prog 18 #[.float .f64 x] w fun e w' => e = .returned (.float .f64 x) ∧ w' = w := by
  go_enter Tryd.func18, Tryd.ntmps18
  go_wp2_with go_in
  go_ret
  exact ⟨rfl, rfl⟩
theorem entry (n : String) (way : Ieee.Toward) (x : Nat) : ∃ q : Question, Extern.MathFloor.toIntegral n way #[.float .f64 x] =
    (match FloatKind.f64.decode x with
    | .nan s t => if FloatKind.f64.format.quiet t = t then pure (.float .f64 x) else do
        let k ← choose q
        pure (.float .f64 (if k == 1 then x else FloatKind.f64.encode (.nan s (FloatKind.f64.format.quiet t))))
    | d => pure (.float .f64 (FloatKind.f64.encode (d.integral way)))) := ⟨_, rfl⟩
theorem quo_run {x r : Nat} (h : floatBits .quo .f64 4607182418800017408 x = some r) (w : World) : (binOp .quo 22 (.float .f64 4607182418800017408) (.float .f64 x)).run Tryd.prog w = .ok (.float .f64 r) w :=
  run_float_arith w .quo 22 .f64 _ _ _ h
end Go.Proofs.YtladepgpandklaaDoor
