import Derived.Test.YtogenhnonjkanaaDoorSaa
namespace Go.Proofs.YtogenhnonjkanaaDoor
open Go.ChangeShapes Go.WideShapes Go.ChangeAt Go.RowKit
set_option linter.unusedVariables false
theorem impl_isL (c : UInt8) (w : World) : Calls Tryd.prog 63 #[.int .u8 (c.toNat : Int)] w fun e w' => e = .returned (.bool (isL c)) ∧ w' = w := by
  have hc := c.toNat_lt
  have hr : (c.toNat < 65) ∨ (65 ≤ c.toNat ∧ c.toNat ≤ 90) ∨ (90 < c.toNat ∧ c.toNat < 95) ∨ (c.toNat = 95) ∨ (c.toNat = 96) ∨ (97 ≤ c.toNat ∧ c.toNat ≤ 122) ∨ (122 < c.toNat) := by omega
  rcases hr with h | h | h | h | h | h | h
  · have e : isL c = false := by unfold isL; simp; omega
    rw [e]
    have i1 : ¬ (97 : Int) ≤ (c.toNat : Int) := by omega
    have i2 : (c.toNat : Int) ≤ 122 := by omega
    have i3 : ¬ (65 : Int) ≤ (c.toNat : Int) := by omega
    have i4 : (c.toNat : Int) ≤ 90 := by omega
    have i5 : ((c.toNat : Int) == 95) = false := by simp; omega
    clear e h hc
    generalize (c.toNat : Int) = n at *
    go_enter Tryd.func63, Tryd.ntmps63
    go_wp2
    go_ret
    exact ⟨rfl, rfl⟩
  · have e : isL c = true := by unfold isL; simp; omega
    rw [e]
    have i1 : ¬ (97 : Int) ≤ (c.toNat : Int) := by omega
    have i2 : (c.toNat : Int) ≤ 122 := by omega
    have i3 : (65 : Int) ≤ (c.toNat : Int) := by omega
    have i4 : (c.toNat : Int) ≤ 90 := by omega
    have i5 : ((c.toNat : Int) == 95) = false := by simp; omega
    clear e h hc
    generalize (c.toNat : Int) = n at *
    go_enter Tryd.func63, Tryd.ntmps63
    go_wp2
    go_ret
    exact ⟨rfl, rfl⟩
  · have e : isL c = false := by unfold isL; simp; omega
    rw [e]
    have i1 : ¬ (97 : Int) ≤ (c.toNat : Int) := by omega
    have i2 : (c.toNat : Int) ≤ 122 := by omega
    have i3 : (65 : Int) ≤ (c.toNat : Int) := by omega
    have i4 : ¬ (c.toNat : Int) ≤ 90 := by omega
    have i5 : ((c.toNat : Int) == 95) = false := by simp; omega
    clear e h hc
    generalize (c.toNat : Int) = n at *
    go_enter Tryd.func63, Tryd.ntmps63
    go_wp2
    go_ret
    exact ⟨rfl, rfl⟩
  · have e : isL c = true := by unfold isL; simp; omega
    rw [e]
    have i1 : ¬ (97 : Int) ≤ (c.toNat : Int) := by omega
    have i2 : (c.toNat : Int) ≤ 122 := by omega
    have i3 : (65 : Int) ≤ (c.toNat : Int) := by omega
    have i4 : ¬ (c.toNat : Int) ≤ 90 := by omega
    have i5 : ((c.toNat : Int) == 95) = true := by simp; omega
    clear e h hc
    generalize (c.toNat : Int) = n at *
    go_enter Tryd.func63, Tryd.ntmps63
    go_wp2
    go_ret
    exact ⟨rfl, rfl⟩
  · have e : isL c = false := by unfold isL; simp; omega
    rw [e]
    have i1 : ¬ (97 : Int) ≤ (c.toNat : Int) := by omega
    have i2 : (c.toNat : Int) ≤ 122 := by omega
    have i3 : (65 : Int) ≤ (c.toNat : Int) := by omega
    have i4 : ¬ (c.toNat : Int) ≤ 90 := by omega
    have i5 : ((c.toNat : Int) == 95) = false := by simp; omega
    clear e h hc
    generalize (c.toNat : Int) = n at *
    go_enter Tryd.func63, Tryd.ntmps63
    go_wp2
    go_ret
    exact ⟨rfl, rfl⟩
  · have e : isL c = true := by unfold isL; simp; omega
    rw [e]
    have i1 : (97 : Int) ≤ (c.toNat : Int) := by omega
    have i2 : (c.toNat : Int) ≤ 122 := by omega
    have i3 : (65 : Int) ≤ (c.toNat : Int) := by omega
    have i4 : ¬ (c.toNat : Int) ≤ 90 := by omega
    have i5 : ((c.toNat : Int) == 95) = false := by simp; omega
    clear e h hc
    generalize (c.toNat : Int) = n at *
    go_enter Tryd.func63, Tryd.ntmps63
    go_wp2
    go_ret
    exact ⟨rfl, rfl⟩
  · have e : isL c = false := by unfold isL; simp; omega
    rw [e]
    have i1 : (97 : Int) ≤ (c.toNat : Int) := by omega
    have i2 : ¬ (c.toNat : Int) ≤ 122 := by omega
    have i3 : (65 : Int) ≤ (c.toNat : Int) := by omega
    have i4 : ¬ (c.toNat : Int) ≤ 90 := by omega
    have i5 : ((c.toNat : Int) == 95) = false := by simp; omega
    clear e h hc
    generalize (c.toNat : Int) = n at *
    go_enter Tryd.func63, Tryd.ntmps63
    go_wp2
    go_ret
    exact ⟨rfl, rfl⟩
theorem spec_isL (c : UInt8) (w : World) : Calls Tryd.prog 31 #[.int .u8 (c.toNat : Int)] w fun e w' => e = .returned (.bool (isL c)) ∧ w' = w := by
  have hc := c.toNat_lt
  have hr : (c.toNat < 65) ∨ (65 ≤ c.toNat ∧ c.toNat ≤ 90) ∨ (90 < c.toNat ∧ c.toNat < 95) ∨ (c.toNat = 95) ∨ (c.toNat = 96) ∨ (97 ≤ c.toNat ∧ c.toNat ≤ 122) ∨ (122 < c.toNat) := by omega
  rcases hr with h | h | h | h | h | h | h
  · have e : isL c = false := by unfold isL; simp; omega
    rw [e]
    have i1 : ¬ (97 : Int) ≤ (c.toNat : Int) := by omega
    have i2 : (c.toNat : Int) ≤ 122 := by omega
    have i3 : ¬ (65 : Int) ≤ (c.toNat : Int) := by omega
    have i4 : (c.toNat : Int) ≤ 90 := by omega
    have i5 : ((c.toNat : Int) == 95) = false := by simp; omega
    clear e h hc
    generalize (c.toNat : Int) = n at *
    go_enter Tryd.func31, Tryd.ntmps31
    go_wp2
    go_ret
    exact ⟨rfl, rfl⟩
  · have e : isL c = true := by unfold isL; simp; omega
    rw [e]
    have i1 : ¬ (97 : Int) ≤ (c.toNat : Int) := by omega
    have i2 : (c.toNat : Int) ≤ 122 := by omega
    have i3 : (65 : Int) ≤ (c.toNat : Int) := by omega
    have i4 : (c.toNat : Int) ≤ 90 := by omega
    have i5 : ((c.toNat : Int) == 95) = false := by simp; omega
    clear e h hc
    generalize (c.toNat : Int) = n at *
    go_enter Tryd.func31, Tryd.ntmps31
    go_wp2
    go_ret
    exact ⟨rfl, rfl⟩
  · have e : isL c = false := by unfold isL; simp; omega
    rw [e]
    have i1 : ¬ (97 : Int) ≤ (c.toNat : Int) := by omega
    have i2 : (c.toNat : Int) ≤ 122 := by omega
    have i3 : (65 : Int) ≤ (c.toNat : Int) := by omega
    have i4 : ¬ (c.toNat : Int) ≤ 90 := by omega
    have i5 : ((c.toNat : Int) == 95) = false := by simp; omega
    clear e h hc
    generalize (c.toNat : Int) = n at *
    go_enter Tryd.func31, Tryd.ntmps31
    go_wp2
    go_ret
    exact ⟨rfl, rfl⟩
  · have e : isL c = true := by unfold isL; simp; omega
    rw [e]
    have i1 : ¬ (97 : Int) ≤ (c.toNat : Int) := by omega
    have i2 : (c.toNat : Int) ≤ 122 := by omega
    have i3 : (65 : Int) ≤ (c.toNat : Int) := by omega
    have i4 : ¬ (c.toNat : Int) ≤ 90 := by omega
    have i5 : ((c.toNat : Int) == 95) = true := by simp; omega
    clear e h hc
    generalize (c.toNat : Int) = n at *
    go_enter Tryd.func31, Tryd.ntmps31
    go_wp2
    go_ret
    exact ⟨rfl, rfl⟩
  · have e : isL c = false := by unfold isL; simp; omega
    rw [e]
    have i1 : ¬ (97 : Int) ≤ (c.toNat : Int) := by omega
    have i2 : (c.toNat : Int) ≤ 122 := by omega
    have i3 : (65 : Int) ≤ (c.toNat : Int) := by omega
    have i4 : ¬ (c.toNat : Int) ≤ 90 := by omega
    have i5 : ((c.toNat : Int) == 95) = false := by simp; omega
    clear e h hc
    generalize (c.toNat : Int) = n at *
    go_enter Tryd.func31, Tryd.ntmps31
    go_wp2
    go_ret
    exact ⟨rfl, rfl⟩
  · have e : isL c = true := by unfold isL; simp; omega
    rw [e]
    have i1 : (97 : Int) ≤ (c.toNat : Int) := by omega
    have i2 : (c.toNat : Int) ≤ 122 := by omega
    have i3 : (65 : Int) ≤ (c.toNat : Int) := by omega
    have i4 : ¬ (c.toNat : Int) ≤ 90 := by omega
    have i5 : ((c.toNat : Int) == 95) = false := by simp; omega
    clear e h hc
    generalize (c.toNat : Int) = n at *
    go_enter Tryd.func31, Tryd.ntmps31
    go_wp2
    go_ret
    exact ⟨rfl, rfl⟩
  · have e : isL c = false := by unfold isL; simp; omega
    rw [e]
    have i1 : (97 : Int) ≤ (c.toNat : Int) := by omega
    have i2 : ¬ (c.toNat : Int) ≤ 122 := by omega
    have i3 : (65 : Int) ≤ (c.toNat : Int) := by omega
    have i4 : ¬ (c.toNat : Int) ≤ 90 := by omega
    have i5 : ((c.toNat : Int) == 95) = false := by simp; omega
    clear e h hc
    generalize (c.toNat : Int) = n at *
    go_enter Tryd.func31, Tryd.ntmps31
    go_wp2
    go_ret
    exact ⟨rfl, rfl⟩

theorem spec_isD (c : UInt8) (w : World) : Calls Tryd.prog 33 #[.int .u8 (c.toNat : Int)] w fun e w' => e = .returned (.bool (isD c)) ∧ w' = w := by
  have hc := c.toNat_lt
  have hr : c.toNat < 48 ∨ (48 ≤ c.toNat ∧ c.toNat ≤ 57) ∨ 57 < c.toNat := by omega
  rcases hr with h | h | h
  · have e : isD c = false := by unfold isD; simp; omega
    rw [e]
    have i1 : ¬ (48 : Int) ≤ (c.toNat : Int) := by omega
    have i2 : (c.toNat : Int) ≤ 57 := by omega
    clear e h hc
    generalize (c.toNat : Int) = n at *
    go_enter Tryd.func33, Tryd.ntmps33
    go_wp2
    go_ret
    exact ⟨rfl, rfl⟩
  · have e : isD c = true := by unfold isD; simp; omega
    rw [e]
    have i1 : (48 : Int) ≤ (c.toNat : Int) := by omega
    have i2 : (c.toNat : Int) ≤ 57 := by omega
    clear e h hc
    generalize (c.toNat : Int) = n at *
    go_enter Tryd.func33, Tryd.ntmps33
    go_wp2
    go_ret
    exact ⟨rfl, rfl⟩
  · have e : isD c = false := by unfold isD; simp; omega
    rw [e]
    have i1 : (48 : Int) ≤ (c.toNat : Int) := by omega
    have i2 : ¬ (c.toNat : Int) ≤ 57 := by omega
    clear e h hc
    generalize (c.toNat : Int) = n at *
    go_enter Tryd.func33, Tryd.ntmps33
    go_wp2
    go_ret
    exact ⟨rfl, rfl⟩
/-- whether a piece stands at a place -/
def pre (L : List UInt8) (k : Nat) (p : List UInt8) : Bool := (L.drop k).take p.length == p
theorem drop_slice (T : ByteArray) (k : Nat) (hk : k ≤ T.size) (W : World) : (Instr.slice 9 (.string T) (some (.int .i64 (k : Int))) none none).run Tryd.prog W = .ok (.string (T.extract k T.size)) W := by
  rw [run_slice_string_from_if W 9 T .i64 (k : Int) Tryd.underlying9, if_pos ⟨by omega, by omega⟩]
  simp
end Go.Proofs.YtogenhnonjkanaaDoor
