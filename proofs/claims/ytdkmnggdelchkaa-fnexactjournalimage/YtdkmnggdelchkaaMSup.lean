import Derived.Test.YtdkmnggdelchkaaMSub
namespace Go.Proofs.Ytdkmnggdelchkaa.Fo
open Go.ChangeShapes Go.WideShapes Go.ChangeAt Go.RowKit
set_option linter.unusedVariables false
set_option maxRecDepth 100000
set_option maxHeartbeats 4000000 in
theorem im_sumof {va : Value} {n : Nat} {A : Nat → Int} (w : World) (ha : RowV w va n (fun i => .int .u8 (A i))) (hn : n ≤ 1048576) (hA : ∀ i, i < n → 0 ≤ A i ∧ A i ≤ 255) :
    Calls Try.prog 58 #[va] w fun e w' => e = .returned (.int .i64 (sgz A n)) ∧ Kb 0 w w' := by
  obtain ⟨pa, ca, rfl, ha2⟩ := ha
  have HA : Hid ((0 < n → ∃ a : Addr, pa = some a ∧ n ≤ ca ∧ ∀ i, i < n → w.cell? (a.add i) = some (.int .u8 (A i))) ∧ ∀ i, i < n → 0 ≤ A i ∧ A i ≤ 255) := (⟨ha2, hA⟩ : _ ∧ _)
  have hnI : (n : Int) ≤ 1048576 := by omega
  clear ha2 hn hA
  go_enter Try.func58, Try.ntmps58
  go_wp2_with fail
  go_loopw [3, 8] (fun s3 s8 wr => ∃ i : Nat, s3 = .int .u64 (smz A i) ∧ s8 = .int .i64 (i : Int) ∧ i ≤ n ∧ wr = w) (fun _ s8 _ => n - (intOf s8).toNat)
  case atStart => exact ⟨0, rfl, rfl, Nat.zero_le _, rfl⟩
  case round =>
    obtain ⟨i, rfl, rfl, hin, rfl⟩ := hrel
    rcases Nat.lt_or_ge i n with hi | hi
    · obtain ⟨hA1, hA2⟩ := (show (0 < n → _) ∧ ∀ i, i < n → 0 ≤ A i ∧ A i ≤ 255 from HA)
      obtain ⟨a, rfl, hca, hra⟩ := hA1 (by omega)
      have hiI : (i : Int) < (n : Int) := by omega
      have qa := hra i hi
      obtain ⟨x0, x1⟩ := hA2 i hi
      clear hra HA hin hA1 hA2
      have hss : smz A (i + 1) = sst (smz A i) (A i) := rfl
      obtain ⟨y, hy⟩ : ∃ y, y = A i := ⟨_, rfl⟩
      obtain ⟨h, hh⟩ : ∃ h, h = smz A i := ⟨_, rfl⟩
      rw [← hy] at qa x0 x1 hss
      rw [← hh] at hss
      rw [← hh]
      have HSS : Hid (smz A (i + 1) = sst h y) := hss
      clear hy hh hss
      go_wp2_with fail
      go_roundw
      case rel => exact ⟨i + 1, by rw [show smz A (i + 1) = sst h y from HSS]; rfl, by go_num, by omega, trivial⟩
      case measure => simp [intOf]; omega
    · obtain rfl : i = n := by omega
      have hI : ¬ (i : Int) < (i : Int) := by omega
      clear HA
      obtain ⟨h, hh⟩ : ∃ h, h = smz A i := ⟨_, rfl⟩
      have HH : Hid (sgz A i = wrap64 h) := (by rw [hh]; rfl : sgz A i = wrap64 h)
      rw [← hh]
      clear hh
      go_wp2_with fail
      go_ret
      exact ⟨by rw [show sgz A i = wrap64 h from HH]; rfl, Kb.refl _ _⟩
end Go.Proofs.Ytdkmnggdelchkaa.Fo
