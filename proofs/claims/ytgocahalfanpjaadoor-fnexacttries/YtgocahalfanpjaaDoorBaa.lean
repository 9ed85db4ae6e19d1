import Derived.Test.YtgocahalfanpjaaDoorProg
import GoSem.Claim
import GoSem.ClaimJoined
import GoSem.ClaimMapViews
import Derived.JoinedTies
import Derived.KernelRfl
import Derived.WalkKit
import Derived.ProofKit
import Derived.OpenShut
import Derived.Handy
import Derived.Laws.Strings3
import Derived.Lib.Strings
import Derived.Laws.OwnMore
import Derived.Laws.IdiomStrings
import Derived.Lib.UnsafeStr
import Derived.Deep.QuietTactic
import Derived.BigQuiet
import Derived.Deep.AppendLies
namespace Go.Proofs.YtgocahalfanpjaaDoor.Fo
open Go.ChangeShapes Go.WideShapes Go.ChangeAt Go.RowKit
set_option linter.unusedVariables false
/-- a row of n values of one cell each, wherever it lies -/
def RowV (W : World) (v : Value) (n : Nat) (A : Nat → Value) : Prop :=
  ∃ pa cap, v = .slice pa n cap ∧ (0 < n → ∃ a : Addr, pa = some a ∧ n ≤ cap ∧ ∀ i, i < n → W.cell? (a.add i) = some (A i))
set_option maxRecDepth 100000 in
set_option maxHeartbeats 4000000 in
theorem eq_strs {va vb : Value} {n : Nat} {A : Nat → ByteArray} (w : World) (ha : RowV w va n (fun i => .string (A i))) (hb : RowV w vb n (fun i => .string (A i))) (hn : n ≤ 1048576) :
    Calls Tryd.prog 12 #[va, vb] w fun e w' => e = .returned (.bool true) ∧ ∃ d, w' = w.drewN d := by
  obtain ⟨pa, ca, rfl, ha2⟩ := ha
  obtain ⟨pb, cb, rfl, hb2⟩ := hb
  have HA : Hid ((0 < n → ∃ a : Addr, pa = some a ∧ n ≤ ca ∧ ∀ i, i < n → w.cell? (a.add i) = some (.string (A i))) ∧ (0 < n → ∃ a : Addr, pb = some a ∧ n ≤ cb ∧ ∀ i, i < n → w.cell? (a.add i) = some (.string (A i)))) := (⟨ha2, hb2⟩ : _ ∧ _)
  have hnI : (n : Int) ≤ 1048576 := by omega
  clear ha2 hb2 hn
  go_enter Tryd.func12, Tryd.ntmps12
  go_wp2_with fail
  go_loopw [5] (fun s5 wr => ∃ i d : Nat, s5 = .int .i64 (i : Int) ∧ i ≤ n ∧ wr = w.drewN d) (fun s5 _ => n - (intOf s5).toNat)
  case atStart => exact ⟨0, 0, rfl, Nat.zero_le _, rfl⟩
  case round =>
    obtain ⟨i, d, rfl, hin, rfl⟩ := hrel
    rcases Nat.lt_or_ge i n with hi | hi
    · obtain ⟨a, rfl, hca, hra⟩ := HA.1 (by omega)
      obtain ⟨b, rfl, hcb, hrb⟩ := HA.2 (by omega)
      have hiI : (i : Int) < (n : Int) := by omega
      have qa := hra i hi
      have qb := hrb i hi
      clear hra hrb HA hin
      generalize A i = x at *
      go_wp2_with fail
      go_quiet (skip)
      go_wp2_with fail
      go_roundw
      case rel => exact ⟨i + 1, _, by go_num, by omega, rfl⟩
      case measure => simp [intOf]; omega
    · obtain rfl : i = n := by omega
      clear HA
      go_wp2_with fail
      go_ret
      exact ⟨rfl, _, rfl⟩
end Go.Proofs.YtgocahalfanpjaaDoor.Fo
