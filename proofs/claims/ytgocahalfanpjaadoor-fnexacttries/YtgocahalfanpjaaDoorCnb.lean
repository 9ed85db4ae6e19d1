import Derived.Test.YtgocahalfanpjaaDoorCna
namespace Go.Proofs.YtgocahalfanpjaaDoor.Fo
open Go.ChangeShapes Go.WideShapes Go.ChangeAt Go.RowKit
set_option linter.unusedVariables false
set_option maxRecDepth 100000
set_option maxHeartbeats 8000000 in
theorem sp_byte (c : UInt8) (w : World) : Calls Tryd.prog 35 #[.int .u8 (c.toNat : Int)] w fun e w' => e = .returned (.bool (okb c)) ∧ w' = w := by
  have hc := c.toNat_lt
  have hr : (c.toNat < 45) ∨ (c.toNat = 45) ∨ (45 < c.toNat ∧ c.toNat < 48) ∨ (48 ≤ c.toNat ∧ c.toNat ≤ 57) ∨ (57 < c.toNat ∧ c.toNat < 95) ∨ (c.toNat = 95) ∨ (c.toNat = 96) ∨ (97 ≤ c.toNat ∧ c.toNat ≤ 122) ∨ (122 < c.toNat) := by omega
  rcases hr with h | h | h | h | h | h | h | h | h
  · have e : okb c = false := by unfold okb; simp; omega
    rw [e]
    have i1 : ¬ (97 : Int) ≤ (c.toNat : Int) := by omega
    have i2 : (c.toNat : Int) ≤ 122 := by omega
    have i3 : ¬ (48 : Int) ≤ (c.toNat : Int) := by omega
    have i4 : (c.toNat : Int) ≤ 57 := by omega
    have i5 : ((c.toNat : Int) == 95) = false := by simp; omega
    have i6 : ((c.toNat : Int) == 45) = false := by simp; omega
    clear e h hc
    generalize (c.toNat : Int) = n at *
    go_enter Tryd.func35, Tryd.ntmps35
    go_wp2_with fail
    go_ret
    exact ⟨rfl, rfl⟩
  · have e : okb c = true := by unfold okb; simp; omega
    rw [e]
    have i1 : ¬ (97 : Int) ≤ (c.toNat : Int) := by omega
    have i2 : (c.toNat : Int) ≤ 122 := by omega
    have i3 : ¬ (48 : Int) ≤ (c.toNat : Int) := by omega
    have i4 : (c.toNat : Int) ≤ 57 := by omega
    have i5 : ((c.toNat : Int) == 95) = false := by simp; omega
    have i6 : ((c.toNat : Int) == 45) = true := by simp; omega
    clear e h hc
    generalize (c.toNat : Int) = n at *
    go_enter Tryd.func35, Tryd.ntmps35
    go_wp2_with fail
    go_ret
    exact ⟨rfl, rfl⟩
  · have e : okb c = false := by unfold okb; simp; omega
    rw [e]
    have i1 : ¬ (97 : Int) ≤ (c.toNat : Int) := by omega
    have i2 : (c.toNat : Int) ≤ 122 := by omega
    have i3 : ¬ (48 : Int) ≤ (c.toNat : Int) := by omega
    have i4 : (c.toNat : Int) ≤ 57 := by omega
    have i5 : ((c.toNat : Int) == 95) = false := by simp; omega
    have i6 : ((c.toNat : Int) == 45) = false := by simp; omega
    clear e h hc
    generalize (c.toNat : Int) = n at *
    go_enter Tryd.func35, Tryd.ntmps35
    go_wp2_with fail
    go_ret
    exact ⟨rfl, rfl⟩
  · have e : okb c = true := by unfold okb; simp; omega
    rw [e]
    have i1 : ¬ (97 : Int) ≤ (c.toNat : Int) := by omega
    have i2 : (c.toNat : Int) ≤ 122 := by omega
    have i3 : (48 : Int) ≤ (c.toNat : Int) := by omega
    have i4 : (c.toNat : Int) ≤ 57 := by omega
    have i5 : ((c.toNat : Int) == 95) = false := by simp; omega
    have i6 : ((c.toNat : Int) == 45) = false := by simp; omega
    clear e h hc
    generalize (c.toNat : Int) = n at *
    go_enter Tryd.func35, Tryd.ntmps35
    go_wp2_with fail
    go_ret
    exact ⟨rfl, rfl⟩
  · have e : okb c = false := by unfold okb; simp; omega
    rw [e]
    have i1 : ¬ (97 : Int) ≤ (c.toNat : Int) := by omega
    have i2 : (c.toNat : Int) ≤ 122 := by omega
    have i3 : (48 : Int) ≤ (c.toNat : Int) := by omega
    have i4 : ¬ (c.toNat : Int) ≤ 57 := by omega
    have i5 : ((c.toNat : Int) == 95) = false := by simp; omega
    have i6 : ((c.toNat : Int) == 45) = false := by simp; omega
    clear e h hc
    generalize (c.toNat : Int) = n at *
    go_enter Tryd.func35, Tryd.ntmps35
    go_wp2_with fail
    go_ret
    exact ⟨rfl, rfl⟩
  · have e : okb c = true := by unfold okb; simp; omega
    rw [e]
    have i1 : ¬ (97 : Int) ≤ (c.toNat : Int) := by omega
    have i2 : (c.toNat : Int) ≤ 122 := by omega
    have i3 : (48 : Int) ≤ (c.toNat : Int) := by omega
    have i4 : ¬ (c.toNat : Int) ≤ 57 := by omega
    have i5 : ((c.toNat : Int) == 95) = true := by simp; omega
    have i6 : ((c.toNat : Int) == 45) = false := by simp; omega
    clear e h hc
    generalize (c.toNat : Int) = n at *
    go_enter Tryd.func35, Tryd.ntmps35
    go_wp2_with fail
    go_ret
    exact ⟨rfl, rfl⟩
  · have e : okb c = false := by unfold okb; simp; omega
    rw [e]
    have i1 : ¬ (97 : Int) ≤ (c.toNat : Int) := by omega
    have i2 : (c.toNat : Int) ≤ 122 := by omega
    have i3 : (48 : Int) ≤ (c.toNat : Int) := by omega
    have i4 : ¬ (c.toNat : Int) ≤ 57 := by omega
    have i5 : ((c.toNat : Int) == 95) = false := by simp; omega
    have i6 : ((c.toNat : Int) == 45) = false := by simp; omega
    clear e h hc
    generalize (c.toNat : Int) = n at *
    go_enter Tryd.func35, Tryd.ntmps35
    go_wp2_with fail
    go_ret
    exact ⟨rfl, rfl⟩
  · have e : okb c = true := by unfold okb; simp; omega
    rw [e]
    have i1 : (97 : Int) ≤ (c.toNat : Int) := by omega
    have i2 : (c.toNat : Int) ≤ 122 := by omega
    have i3 : (48 : Int) ≤ (c.toNat : Int) := by omega
    have i4 : ¬ (c.toNat : Int) ≤ 57 := by omega
    have i5 : ((c.toNat : Int) == 95) = false := by simp; omega
    have i6 : ((c.toNat : Int) == 45) = false := by simp; omega
    clear e h hc
    generalize (c.toNat : Int) = n at *
    go_enter Tryd.func35, Tryd.ntmps35
    go_wp2_with fail
    go_ret
    exact ⟨rfl, rfl⟩
  · have e : okb c = false := by unfold okb; simp; omega
    rw [e]
    have i1 : (97 : Int) ≤ (c.toNat : Int) := by omega
    have i2 : ¬ (c.toNat : Int) ≤ 122 := by omega
    have i3 : (48 : Int) ≤ (c.toNat : Int) := by omega
    have i4 : ¬ (c.toNat : Int) ≤ 57 := by omega
    have i5 : ((c.toNat : Int) == 95) = false := by simp; omega
    have i6 : ((c.toNat : Int) == 45) = false := by simp; omega
    clear e h hc
    generalize (c.toNat : Int) = n at *
    go_enter Tryd.func35, Tryd.ntmps35
    go_wp2_with fail
    go_ret
    exact ⟨rfl, rfl⟩
end Go.Proofs.YtgocahalfanpjaaDoor.Fo
