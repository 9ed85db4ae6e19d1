import Derived.Test.YtdgainfmidoemaaMSua
import Derived.Test.YtdgainfmidoemaaMNba
namespace Go.Proofs.Ytdgainfmidoemaa.Fo
open Go.ChangeShapes Go.WideShapes Go.ChangeAt Go.RowKit
set_option linter.unusedVariables false
set_option maxRecDepth 100000
/-- one byte more in a sum -/
def sst (h x : Int) : Int := IntKind.u64.wrap (bits BinOp.xor IntKind.u64 h x * 1099511628211)
def smz (A : Nat → Int) : Nat → Int
  | 0 => 14695981039346656037
  | i + 1 => sst (smz A i) (A i)
set_option maxHeartbeats 4000000 in
theorem sp_sum {va : Value} {n : Nat} {A : Nat → Int} (w : World) (ha : RowV w va n (fun i => .int .u8 (A i))) (hn : n ≤ 1048576) (hA : ∀ i, i < n → 0 ≤ A i ∧ A i ≤ 255) :
    Calls Try.prog 41 #[va] w fun e w' => e = .returned (.int .u64 (smz A n)) ∧ w' = w := by
  obtain ⟨pa, ca, rfl, ha2⟩ := ha
  have HA : Hid ((0 < n → ∃ a : Addr, pa = some a ∧ n ≤ ca ∧ ∀ i, i < n → w.cell? (a.add i) = some (.int .u8 (A i))) ∧ ∀ i, i < n → 0 ≤ A i ∧ A i ≤ 255) := (⟨ha2, hA⟩ : _ ∧ _)
  have hnI : (n : Int) ≤ 1048576 := by omega
  clear ha2 hn hA
  go_enter Try.func41, Try.ntmps41
  go_wp2_with fail
  go_loopw [3, 8] (fun s3 s8 wr => ∃ i : Nat, s3 = .int .u64 (smz A i) ∧ s8 = .int .i64 (i : Int) ∧ i ≤ n ∧ wr = w) (fun _ s8 _ => n - (intOf s8).toNat)
  case atStart => exact ⟨0, rfl, rfl, Nat.zero_le _, rfl⟩
  case round =>
    obtain ⟨i, rfl, rfl, hin, rfl⟩ := hrel
    rcases Nat.lt_or_ge i n with hi | hi
    · obtain ⟨hA1, hA2⟩ := (show (0 < n → _) ∧ ∀ i, i < n → 0 ≤ A i ∧ A i ≤ 255 from HA)
      obtain ⟨a, rfl, hca, hra⟩ := hA1 (by omega)
      have hiI : (i : Int) < (n : Int) := by omega
      have qa := hra i hi
      obtain ⟨x0, x1⟩ := hA2 i hi
      clear hra HA hin hA1 hA2
      have hss : smz A (i + 1) = sst (smz A i) (A i) := rfl
      obtain ⟨y, hy⟩ : ∃ y, y = A i := ⟨_, rfl⟩
      obtain ⟨h, hh⟩ : ∃ h, h = smz A i := ⟨_, rfl⟩
      rw [← hy] at qa x0 x1 hss
      rw [← hh] at hss
      rw [← hh]
      have HSS : Hid (smz A (i + 1) = sst h y) := hss
      clear hy hh hss
      go_wp2_with fail
      go_roundw
      case rel => exact ⟨i + 1, by rw [show smz A (i + 1) = sst h y from HSS]; rfl, by go_num, by omega, trivial⟩
      case measure => simp [intOf]; omega
    · obtain rfl : i = n := by omega
      have hI : ¬ (i : Int) < (i : Int) := by omega
      clear HA
      go_wp2_with fail
      go_ret
      first | exact rfl | exact ⟨rfl, rfl⟩ | trivial
def sgz (A : Nat → Int) (n : Nat) : Int := wrap64 (smz A n)
set_option maxHeartbeats 4000000 in
theorem sp_sumof {va : Value} {n : Nat} {A : Nat → Int} (w : World) (ha : RowV w va n (fun i => .int .u8 (A i))) (hn : n ≤ 1048576) (hA : ∀ i, i < n → 0 ≤ A i ∧ A i ≤ 255) :
    Calls Try.prog 14 #[va] w fun e w' => e = .returned (.int .i64 (sgz A n)) ∧ Kb 0 w w' := by
  have HC := sp_sum w ha hn hA
  have e : sgz A n = wrap64 (smz A n) := rfl
  rw [e]
  obtain ⟨pa, ca, rfl, -⟩ := ha
  generalize smz A n = h at *
  clear hA hn e
  go_enter Try.func14, Try.ntmps14
  go_wp2_with fail
  refine HC.mono ?_
  rintro e w1 ⟨rfl, rfl⟩
  clear HC
  go_wp2_with fail
  go_ret
  exact ⟨rfl, Kb.refl _ _⟩
set_option maxHeartbeats 8000000 in
theorem law_sum {pa : Option Addr} {ca n : Nat} {A : Nat → Int} {R : Int} (hsp : ∀ W v, RowV W v n (fun i => .int .u8 (A i)) → n ≤ 1048576 → Calls Try.prog 14 #[v] W fun e w' => e = .returned (.int .i64 R) ∧ Kb 0 W w') (him : ∀ W v, RowV W v n (fun i => .int .u8 (A i)) → n ≤ 1048576 → Calls Try.prog 16 #[v] W fun e w' => e = .returned (.int .i64 R) ∧ Kb 0 W w') (w : World) (ha : RowV w (.slice pa n ca) n (fun i => .int .u8 (A i))) (hn : (n : Int) < 140737488355328) :
    Calls Try.prog 4 #[.slice pa n ca] w fun e w' => e = .returned (.bool true) ∧ Kb 0 w w' := by
  by_cases h6 : n ≤ 1048576
  case neg =>
    have h6I : (1048576 : Int) < (n : Int) := by omega
    clear hsp him ha
    go_enter Try.func4, Try.ntmps4
    go_wp2_with fail
    go_ret
    exact ⟨rfl, Kb.refl _ _⟩
  have h6I : ¬ (1048576 : Int) < (n : Int) := by omega
  have HA : Hid (∀ W, Kb 0 w W → RowV W (.slice pa n ca) n (fun i => .int .u8 (A i))) := (fun W k => (ha.rowB.keep k).row : ∀ W, _)
  have HTO : Hid (∀ W v, RowV W v n (fun i => .int .u8 (A i)) → Calls Try.prog 15 #[v] W fun e w' => ∃ v', e = .returned v' ∧ RowV w' v' n (fun i => .int .u8 (A i)) ∧ Kb 0 W w') := (fun W v h => (to_byts W h h6).mono (fun e w' ⟨v', he, ho, hb, _⟩ => ⟨v', he, ho.row, Kb.of_below hb 0⟩) : ∀ W v, _)
  have HEQ : Hid (∀ W v v', RowV W v n (fun i => .int .u8 (A i)) → RowV W v' n (fun i => .int .u8 (A i)) → Calls Try.prog 17 #[v, v'] W fun e w' => e = .returned (.bool true) ∧ Kb 0 W w') := (fun W v v' h h' => (eq_byts W h h' h6).mono (fun e w' ⟨he, hd⟩ => ⟨he, kb_drewN hd⟩) : ∀ W v v', _)
  have HSP : Hid (∀ W v, RowV W v n (fun i => .int .u8 (A i)) → Calls Try.prog 14 #[v] W fun e w' => e = .returned (.int .i64 R) ∧ Kb 0 W w') := (fun W v h => hsp W v h h6 : ∀ W v, _)
  have HIM : Hid (∀ W v, RowV W v n (fun i => .int .u8 (A i)) → Calls Try.prog 16 #[v] W fun e w' => e = .returned (.int .i64 R) ∧ Kb 0 W w') := (fun W v h => him W v h h6 : ∀ W v, _)
  have hRR : (R != R) = false := by simp
  clear hsp him ha hn h6
  have HT0 := (show ∀ W v, RowV W v n _ → _ from HTO) w _ ((show ∀ W, Kb 0 w W → _ from HA) w (Kb.refl _ _))
  go_enter Try.func4, Try.ntmps4
  go_wp2_with fail
  refine HT0.mono ?_
  rintro e w1 ⟨v1, rfl, r1, k1⟩
  clear HT0
  have HS1 := (show ∀ W v, RowV W v n _ → _ from HSP) w1 v1 r1
  have HK1 : Hid (Kb 0 w w1) := k1
  obtain ⟨p1, q1, rfl, -⟩ := id r1
  clear r1 k1
  go_wp2_with fail
  refine HS1.mono ?_
  rintro e w2 ⟨rfl, k2⟩
  clear HS1
  have HK2 : Hid (Kb 0 w w2) := (show Kb 0 w w1 from HK1).trans k2
  clear k2 HK1
  have HT2 := (show ∀ W v, RowV W v n _ → _ from HTO) w2 _ ((show ∀ W, Kb 0 w W → _ from HA) w2 HK2)
  go_wp2_with fail
  refine HT2.mono ?_
  rintro e w3 ⟨vx, rfl, rx, k3⟩
  clear HT2
  have HK3 : Hid (Kb 0 w w3 ∧ RowV w3 vx n (fun i => .int .u8 (A i))) := (⟨(show Kb 0 w w2 from HK2).trans k3, rx⟩ : _ ∧ _)
  have HS3 := (show ∀ W v, RowV W v n _ → _ from HIM) w3 vx rx
  obtain ⟨px, qx, rfl, -⟩ := id rx
  clear rx k3 HK2
  go_wp2_with fail
  refine HS3.mono ?_
  rintro e w4 ⟨rfl, k4⟩
  clear HS3
  have HK4 : Hid (Kb 0 w w4 ∧ RowV w4 (.slice px n qx) n (fun i => .int .u8 (A i))) := (⟨(show Kb 0 w w3 ∧ _ from HK3).1.trans k4, ((show _ ∧ RowV w3 _ n _ from HK3).2.rowB.keep k4).row⟩ : _ ∧ _)
  clear k4 HK3
  have HT4 := (show ∀ W v, RowV W v n _ → _ from HTO) w4 _ ((show ∀ W, Kb 0 w W → _ from HA) w4 (show Kb 0 w w4 ∧ _ from HK4).1)
  go_wp2_with fail
  refine HT4.mono ?_
  rintro e w5 ⟨v5, rfl, r5, k5⟩
  clear HT4
  have HE5 := (show ∀ W v v', RowV W v n _ → RowV W v' n _ → _ from HEQ) w5 _ _ ((show _ ∧ RowV w4 _ n _ from HK4).2.rowB.keep k5).row r5
  have HK5 : Hid (Kb 0 w w5) := (show Kb 0 w w4 ∧ _ from HK4).1.trans k5
  obtain ⟨p5, q5, rfl, -⟩ := id r5
  clear r5 k5 HK4
  go_wp2_with fail
  refine HE5.mono ?_
  rintro e w6 ⟨rfl, k6⟩
  have HK6 : Hid (Kb 0 w w6) := (show Kb 0 w w5 from HK5).trans k6
  clear HE5 HK5 k6
  go_wp2_with fail
  go_ret
  exact ⟨rfl, HK6⟩
end Go.Proofs.Ytdgainfmidoemaa.Fo
