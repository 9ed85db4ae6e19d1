import Derived.Test.YtladepgpandklaaGreatDoorMVaw
import Derived.Lib.Bytealg
import Derived.BigQuiet
import Derived.Deep.QuietTactic
import Derived.Deep.RegionWith
namespace Go.Proofs.YtladepgpandklaaGreatDoor
open Go.ChangeShapes Go.WideShapes Go.ChangeAt Go.RowKit
set_option linter.unusedVariables false
theorem arch_cmp (x y : ByteArray) (w : World) : (callFunc 78 #[.string x, .string y]).run Tryz.prog w = .ok (.value (.int .i64 (Lib.compareBytes x.data.toList y.data.toList))) w := by
  rw [run_callFunc_extern (e := Extern.BytealgCompare.compare) Tryz.func78 (by kernel_rfl) (by kernel_rfl) (by kernel_rfl) (by kernel_rfl)]
  rw [Lib.run_compareString]
  rfl
theorem im_cmps (x y : ByteArray) (w : World) : Calls Tryz.prog 49 #[.string x, .string y] w fun e w' => e = .returned (.int .i64 (Lib.compareBytes x.data.toList y.data.toList)) ∧ w' = w := by
  have ha := fun w => arch_cmp x y w
  generalize Lib.compareBytes x.data.toList y.data.toList = z at *
  go_enter Tryz.func49, Tryz.ntmps49
  go_wp2_with go_in
  go_ret
  exact ⟨rfl, rfl⟩
theorem drop_at (x : ByteArray) (i : Nat) (h : i < x.size) : x.data.toList.drop i = x[i] :: x.data.toList.drop (i + 1) := by
  have h2 : i < x.data.toList.length := by simpa using h
  rw [List.drop_eq_getElem_cons h2]
  simp
  rfl
theorem idx (x : ByteArray) (i : Nat) (h : i < x.size) (w : World) : (Instr.index 9 (.string x) (.int .i64 (i : Int))).run Tryz.prog w = .ok (.int .u8 ((x[i]).toNat : Int)) w := by
  rw [run_index_string w 9 x .i64 (i : Int) Tryz.underlying9, dif_pos ⟨by omega, by omega⟩]
  simp
theorem cb_lt {a b : UInt8} {l m : List UInt8} (h : (a.toNat : Int) < (b.toNat : Int)) : Lib.compareBytes (a :: l) (b :: m) = -1 := by
  unfold Lib.compareBytes
  rw [if_pos (UInt8.lt_iff_toNat_lt.2 (by omega))]
theorem cb_gt {a b : UInt8} {l m : List UInt8} (h : (b.toNat : Int) < (a.toNat : Int)) : Lib.compareBytes (a :: l) (b :: m) = 1 := by
  unfold Lib.compareBytes
  rw [if_neg (fun q => by have := UInt8.lt_iff_toNat_lt.1 q; omega), if_pos (UInt8.lt_iff_toNat_lt.2 (by omega))]
theorem cb_eq {a b : UInt8} {l m : List UInt8} (h1 : ¬ (a.toNat : Int) < (b.toNat : Int)) (h2 : ¬ (b.toNat : Int) < (a.toNat : Int)) : Lib.compareBytes (a :: l) (b :: m) = Lib.compareBytes l m := by
  rw [Lib.compareBytes, if_neg (fun q => by have := UInt8.lt_iff_toNat_lt.1 q; omega), if_neg (fun q => by have := UInt8.lt_iff_toNat_lt.1 q; omega)]
theorem cb_end (x y : ByteArray) (i : Nat) (hx : i ≤ x.size) (hy : i ≤ y.size) (h : i = x.size ∨ i = y.size) : Lib.compareBytes (x.data.toList.drop i) (y.data.toList.drop i) = if (x.size : Int) < (y.size : Int) then -1 else if (y.size : Int) < (x.size : Int) then 1 else 0 := by
  have ex : i = x.size → x.data.toList.drop i = [] := fun e => List.drop_eq_nil_of_le (by rw [e]; simp)
  have ey : i = y.size → y.data.toList.drop i = [] := fun e => List.drop_eq_nil_of_le (by rw [e]; simp)
  rcases Nat.lt_trichotomy x.size y.size with q | q | q
  · rw [if_pos (by omega), ex (by omega), drop_at y i (by omega)]; rfl
  · rw [if_neg (by omega), if_neg (by omega), ex (by omega), ey (by omega)]; rfl
  · rw [if_neg (by omega), if_pos (by omega), ey (by omega), drop_at x i (by omega)]; rfl
set_option maxRecDepth 100000 in
set_option maxHeartbeats 4000000 in
theorem sp_strings (x y : ByteArray) (hx : (x.size : Int) ≤ 1048576) (hy : (y.size : Int) ≤ 1048576) (w : World) : Calls Tryz.prog 38 #[.string x, .string y] w fun e w' => e = .returned (.int .i64 (Lib.compareBytes x.data.toList y.data.toList)) ∧ Grown w w' := by
  go_enter Tryz.func38, Tryz.ntmps38
  go_wp2_with fail
  go_loopw [5] (fun s5 wr => ∃ i : Nat, s5 = .int .i64 (i : Int) ∧ i ≤ x.size ∧ i ≤ y.size ∧ Hid (Grown w wr ∧ Lib.compareBytes x.data.toList y.data.toList = Lib.compareBytes (x.data.toList.drop i) (y.data.toList.drop i))) (fun s5 _ => x.size - (intOf s5).toNat)
  case atStart => exact ⟨0, rfl, Nat.zero_le _, Nat.zero_le _, (⟨Grown.refl _, rfl⟩ : _ ∧ _)⟩
  case round =>
    obtain ⟨i, rfl, hix, hiy, HI⟩ := hrel
    obtain ⟨gw, hc⟩ := (show Grown w wr ∧ Lib.compareBytes x.data.toList y.data.toList = Lib.compareBytes (x.data.toList.drop i) (y.data.toList.drop i) from HI)
    clear HI
    by_cases h : i < x.size ∧ i < y.size
    · obtain ⟨h1, h2⟩ := h
      have i1 : (i : Int) < (x.size : Int) := by omega
      have i2 : (i : Int) < (y.size : Int) := by omega
      have ix := fun w => idx x i h1 w
      have iy := fun w => idx y i h2 w
      rw [drop_at x i h1, drop_at y i h2] at hc
      generalize x[i] = a at *
      generalize y[i] = b at *
      rcases Int.lt_trichotomy (a.toNat : Int) (b.toNat : Int) with q | q | q
      · rw [cb_lt q] at hc
        have HC : Hid (Lib.compareBytes x.data.toList y.data.toList = _) := hc
        have HG : Hid (Grown w wr) := gw
        clear hc gw
        go_wp2_with fail
        go_quiet (skip)
        go_wp2_with fail
        go_ret
        exact ⟨by rw [show _ = _ from HC]; rfl, by first | exact HG | exact Grown.drew HG⟩
      · rw [cb_eq (by omega) (by omega)] at hc
        have q1 : ¬ (a.toNat : Int) < (b.toNat : Int) := by omega
        have q2 : ¬ (b.toNat : Int) < (a.toNat : Int) := by omega
        have HX : Hid (Grown w wr ∧ Lib.compareBytes x.data.toList y.data.toList = Lib.compareBytes (x.data.toList.drop (i + 1)) (y.data.toList.drop (i + 1))) := (⟨gw, hc⟩ : _ ∧ _)
        clear hc gw q
        go_wp2_with fail
        go_quiet (skip)
        go_wp2_with fail
        go_quiet (skip)
        go_wp2_with fail
        go_roundw
        case rel => exact ⟨i + 1, by go_num, by omega, by omega, HX⟩
        case measure => simp [intOf]; omega
      · rw [cb_gt q] at hc
        have HC : Hid (Lib.compareBytes x.data.toList y.data.toList = _) := hc
        have q1 : ¬ (a.toNat : Int) < (b.toNat : Int) := by omega
        have HG : Hid (Grown w wr) := gw
        clear hc gw
        go_wp2_with fail
        go_quiet (skip)
        go_wp2_with fail
        go_quiet (skip)
        go_wp2_with fail
        go_ret
        exact ⟨by rw [show _ = _ from HC]; rfl, by first | exact HG | exact Grown.drew HG⟩
    · rw [cb_end x y i hix hiy (by omega)] at hc
      have HG : Hid (Grown w wr) := gw
      rcases Int.lt_trichotomy (x.size : Int) (y.size : Int) with q | q | q
      · rw [if_pos q] at hc
        have HC : Hid (Lib.compareBytes x.data.toList y.data.toList = _) := hc
        have e : i = x.size := by omega
        have n1 : ¬ (i : Int) < (x.size : Int) := by omega
        clear hc gw e
        go_wp2_with fail
        go_ret
        exact ⟨by rw [show _ = _ from HC]; rfl, HG⟩
      · rw [if_neg (by omega), if_neg (by omega)] at hc
        have HC : Hid (Lib.compareBytes x.data.toList y.data.toList = _) := hc
        have e : i = x.size := by omega
        have n1 : ¬ (i : Int) < (x.size : Int) := by omega
        have n2 : ¬ (x.size : Int) < (y.size : Int) := by omega
        have n3 : ¬ (y.size : Int) < (x.size : Int) := by omega
        clear hc gw e q
        go_wp2_with fail
        go_ret
        exact ⟨by rw [show _ = _ from HC]; rfl, HG⟩
      · rw [if_neg (by omega), if_pos q] at hc
        have HC : Hid (Lib.compareBytes x.data.toList y.data.toList = _) := hc
        have e : i = y.size := by omega
        have n0 : (i : Int) < (x.size : Int) := by omega
        have n1 : ¬ (i : Int) < (y.size : Int) := by omega
        have n2 : ¬ (x.size : Int) < (y.size : Int) := by omega
        clear hc gw e
        go_wp2_with fail
        go_ret
        exact ⟨by rw [show _ = _ from HC]; rfl, HG⟩
end Go.Proofs.YtladepgpandklaaGreatDoor
