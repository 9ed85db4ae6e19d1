import Derived.Test.YtamcnmnaadpfoaaMUaf
import Derived.Test.YtamcnmnaadpfoaaMBae
namespace Go.Proofs.Ytamcnmnaadpfoaa.Fo
open Go.ChangeShapes Go.WideShapes Go.ChangeAt Go.RowKit
set_option linter.unusedVariables false
set_option maxRecDepth 100000
def Bse (c d : Nat) (C D : Nat → Int) : Prop := c = d ∧ ∀ j, j < c → C j = D j
def RowU (w : World) (p : Option Addr) (c k : Nat) (C : Nat → Int) : Prop := 0 < c → ∃ a : Addr, p = some a ∧ c ≤ k ∧ ∀ i, i < c → w.cell? (a.add i) = some (.int .u8 (C i))
set_option maxHeartbeats 16000000 in
theorem sp_equal {pa pb : Option Addr} {ca cb c d : Nat} {C D : Nat → Int} (w : World) (ha : RowU w pa c ca C) (hb : RowU w pb d cb D) (hc : c ≤ 1000000000) (hd : d ≤ 1000000000) :
    Calls Try.prog 18 #[.slice pa c ca, .slice pb d cb] w fun e w' => e = .returned (.bool (dc (Bse c d C D))) ∧ ∃ k, w' = w.drewN k := by
  have hcI : (c : Int) ≤ 1000000000 := by omega
  have hdI : (d : Int) ≤ 1000000000 := by omega
  obtain ⟨R, hR⟩ : ∃ R, R = dc (Bse c d C D) := ⟨_, rfl⟩
  rw [← hR]
  have HR : Hid (R = dc (Bse c d C D)) := hR
  clear hR
  by_cases hcd : c = d
  case neg =>
    obtain rfl : R = false := (show R = _ from HR).trans (dc_f (fun q => hcd q.1))
    have hne : ((c : Int) != (d : Int)) = true := by simp; omega
    clear HR ha hb hcd
    go_enter Try.func18, Try.ntmps18
    go_wp2_with fail
    go_ret
    exact ⟨rfl, 0, rfl⟩
  subst hcd
  have hne : ((c : Int) != (c : Int)) = false := by simp
  have HA : Hid (RowU w pa c ca C ∧ RowU w pb c cb D) := (⟨ha, hb⟩ : _ ∧ _)
  clear ha hb hc hd
  go_enter Try.func18, Try.ntmps18
  go_wp2_with fail
  go_loopw [13] (fun s13 wr => ∃ j : Nat, s13 = .int .i64 (j : Int) ∧ j ≤ c ∧ Hid ((∃ k, wr = w.drewN k) ∧ ∀ q, q < j → C q = D q)) (fun s13 _ => c - (intOf s13).toNat)
  case atStart => exact ⟨0, rfl, Nat.zero_le _, ⟨⟨0, rfl⟩, fun q hq => by omega⟩⟩
  case round =>
    obtain ⟨j, rfl, hj0, HX⟩ := hrel
    obtain ⟨⟨kd, rfl⟩, hY⟩ := (show (∃ k, wr = w.drewN k) ∧ ∀ q, q < j → C q = D q from HX)
    rcases Nat.lt_or_ge j c with hj | hj
    case inr =>
      obtain rfl : j = c := by omega
      have hI : ¬ (j : Int) < (j : Int) := by omega
      obtain rfl : R = true := (show R = _ from HR).trans (dc_t ⟨rfl, hY⟩)
      clear HX hY HA HR hj
      go_wp2_with fail
      go_ret
      exact ⟨rfl, _, rfl⟩
    have hI : (j : Int) < (c : Int) := by omega
    obtain ⟨ha2, hb2⟩ := (show RowU w pa c ca C ∧ RowU w pb c cb D from HA)
    obtain ⟨qa, rfl, hca, hra⟩ := ha2 (by omega)
    obtain ⟨qb, rfl, hcb, hrb⟩ := hb2 (by omega)
    have p0 := hra j hj
    have q0 := hrb j hj
    have HBD2 : Hid (¬ C j = D j → R = false) := (fun q => (show R = _ from HR).trans (dc_f (fun g => q (g.2 j hj))) : _ → _)
    have HM3 : Hid (∀ q, q < j → C q = D q) := hY
    clear ha2 hb2 hra hrb hY HX hj0
    obtain ⟨y, hy⟩ : ∃ y, y = C j := ⟨_, rfl⟩
    obtain ⟨z, hz⟩ : ∃ z, z = D j := ⟨_, rfl⟩
    rw [← hy] at p0 HBD2
    rw [← hz] at q0 HBD2
    have HYZ : Hid (y = C j ∧ z = D j) := (⟨hy, hz⟩ : _ ∧ _)
    clear hy hz
    by_cases hyz : y = z
    · subst hyz
      have hbb : (y != y) = false := by simp
      go_wp2_with fail
      go_quiet (skip)
      go_wp2_with fail
      go_roundw
      case rel => exact ⟨j + 1, by go_num, by omega, ⟨⟨_, rfl⟩, fun q hq => by
        rcases Nat.lt_or_ge q j with h | h
        · exact (show ∀ q, q < j → C q = D q from HM3) q h
        · obtain rfl : q = j := by omega
          exact (show y = C q ∧ y = D q from HYZ).1.symm.trans (show y = C q ∧ y = D q from HYZ).2⟩⟩
      case measure => simp [intOf]; omega
    · have hbb : (y != z) = true := by simp [hyz]
      obtain rfl : R = false := (show ¬ y = z → R = false from HBD2) hyz
      clear HBD2 HM3 HYZ
      go_wp2_with fail
      go_quiet (skip)
      go_wp2_with fail
      go_ret
      exact ⟨rfl, _, by rw [World.drewN_drewN]⟩
/-- the same bytes, as strings -/
theorem conv_row {p : Option Addr} {c k : Nat} {L : List UInt8} {W : World} (h : RowU W p c k (fun i => ((L.getD i 0).toNat : Int))) (hl : L.length = c) (hk : p = none → c = 0) : (convert 22 9 (.slice p c k)).run Try.prog W = .ok (.string ⟨L.toArray⟩) W := by
  cases p with
  | none =>
    obtain rfl := hk rfl
    obtain rfl : L = [] := List.length_eq_zero_iff.1 hl
    have := run_convert_bytes_string (P := Try.prog) W 22 9 5 none 0 k Try.underlying22 Try.underlying5 Try.underlying9
    rw [this]
    rfl
  | some a =>
    have := run_convert_bytes_back (P := Try.prog) W 22 9 5 a k L Try.underlying22 Try.underlying5 Try.underlying9 (fun j hj => by
      obtain ⟨a', e, _, hr⟩ := h (by omega)
      injection e with e
      subst e
      rw [hr j (by omega)]
      simp [List.getD_eq_getElem?_getD, List.getElem?_eq_getElem hj])
    rw [hl] at this
    exact this
set_option maxHeartbeats 16000000 in
theorem im_bytes_equal {pa pb : Option Addr} {ca cb c d : Nat} {L M : List UInt8} (w : World) (ha : (convert 22 9 (.slice pa c ca)).run Try.prog w = .ok (.string ⟨L.toArray⟩) w) (hb : (convert 22 9 (.slice pb d cb)).run Try.prog w = .ok (.string ⟨M.toArray⟩) w) :
    Calls Try.prog 22 #[.slice pa c ca, .slice pb d cb] w fun e w' => e = .returned (.bool (decide (L = M))) ∧ w' = w := by
  obtain ⟨X, hX⟩ : ∃ X : ByteArray, X = ⟨L.toArray⟩ := ⟨_, rfl⟩
  obtain ⟨Y, hY⟩ : ∃ Y : ByteArray, Y = ⟨M.toArray⟩ := ⟨_, rfl⟩
  rw [← hX] at ha
  rw [← hY] at hb
  obtain ⟨R, hR⟩ : ∃ R, R = decide (L = M) := ⟨_, rfl⟩
  rw [← hR]
  have hxy : (L = M) ↔ X.toList = Y.toList := by
    rw [hX, hY, Lib.toList_data, Lib.toList_data]
  have HH : Hid (R = decide (L = M) ∧ ((L = M) ↔ X.toList = Y.toList)) := (⟨hR, hxy⟩ : _ ∧ _)
  clear hX hY hR hxy
  go_enter Try.func22, Try.ntmps22
  go_wp2_with fail
  go_ret
  obtain ⟨e1, e2⟩ := (show R = decide (L = M) ∧ ((L = M) ↔ X.toList = Y.toList) from HH)
  rw [e1]
  by_cases e : L = M
  · rw [decide_eq_true e, e2.1 e]; simp
  · rw [decide_eq_false e]; simp; exact fun q => e (e2.2 q)
end Go.Proofs.Ytamcnmnaadpfoaa.Fo
