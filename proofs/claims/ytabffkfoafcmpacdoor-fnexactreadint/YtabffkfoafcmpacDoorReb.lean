import Derived.Test.YtabffkfoafcmpacDoorRea
namespace Go.Proofs.YtabffkfoafcmpacDoor
open Go.ChangeShapes Go.WideShapes Go.ChangeAt Go.RowKit
set_option linter.unusedVariables false
theorem ix (T : ByteArray) (L : List UInt8) (hT : T.data.toList = L) (k : Nat) (c : UInt8) (hk : L[k]? = some c) (w : World) :
    (Instr.index 9 (.string T) (.int .i64 (k : Int))).run Tryd.prog w = .ok (.int .u8 (c.toNat : Int)) w := by
  subst hT
  have hlt : k < T.size := by
    have := (List.getElem?_eq_some_iff.1 hk).1
    simpa using this
  rw [run_index_string w 9 T .i64 _ Tryd.underlying9, dif_pos ⟨by omega, by omega⟩]
  have e : ((k : Int)).toNat = k := by omega
  simp only [e]
  rw [Lib.getD_at _ k hlt]
  have : T.data.toList.getD k 0 = c := by rw [List.getD, hk]; rfl
  rw [this]
theorem acc_facts (b acc d : Nat) (hb : 2 ≤ b) (hd : d < b) : ∃ (q p : Int), 18446744073709551615 / (b : Int) = q ∧ (acc : Int) * (b : Int) = p ∧ p = ((acc * b : Nat) : Int) ∧ 0 ≤ p ∧ (q < acc → 18446744073709551616 ≤ acc * b + d) ∧ ((acc : Int) ≤ q → p ≤ 18446744073709551615) := by
  refine ⟨((18446744073709551615 / b : Nat) : Int), ((acc * b : Nat) : Int), by simp, by simp, rfl, by omega, fun h => ?_, fun h => ?_⟩
  · have h1 : 18446744073709551615 / b < acc := by omega
    have h2 := (Nat.div_lt_iff_lt_mul (by omega)).1 h1
    omega
  · have h1 : acc ≤ 18446744073709551615 / b := by omega
    have h2 := Nat.mul_le_mul_right b h1
    have h3 := Nat.div_mul_le_self 18446744073709551615 b
    omega
/-- what l41whole answers -/
def whl : Option Nat → Value
  | some v => .tuple #[.int .u64 (v : Int), .bool true]
  | none => .tuple #[.int .u64 0, .bool false]
set_option maxRecDepth 100000 in
set_option maxHeartbeats 2000000 in
theorem spec_whole (b : Nat) (hb : 2 ≤ b) (hb2 : b ≤ 36) (T : ByteArray) (L : List UInt8) (hT : T.data.toList = L) (hlen : L.length ≤ 1200) (hd : ∀ c ∈ L, dv c < b) (hne : 0 < L.length) (w : World) :
    Calls Tryd.prog 18 #[.string T, .int .i64 b] w fun e w' => e = .returned (whl (rd b 0 L)) ∧ w' = w := by
  have hsz : T.size = L.length := by rw [← hT]; simp
  have H17 := spec_dig
  have HX := fun k c hk => ix T L hT k c hk
  go_enter Tryd.func18, Tryd.ntmps18
  go_wp2
  go_loop [6, 7] (fun vn vi => ∃ (k acc : Nat) (a : Int), vn = .int .u64 a ∧ vi = .int .i64 k ∧ k ≤ L.length ∧ Hid (a = (acc : Int) ∧ acc < 18446744073709551616 ∧ rd b 0 L = rd b acc (L.drop k)))
    (fun _ vi => L.length - (intOf vi).toNat)
  case atStart => exact ⟨0, 0, 0, rfl, rfl, by omega, (⟨rfl, by omega, rfl⟩ : (0 : Int) = ((0 : Nat) : Int) ∧ 0 < 18446744073709551616 ∧ rd b 0 L = rd b 0 (L.drop 0))⟩
  case round =>
    obtain ⟨k, acc, a, rfl, rfl, hk, hh⟩ := hrel
    obtain ⟨ha, hacc, hdec⟩ := (show a = (acc : Int) ∧ acc < 18446744073709551616 ∧ rd b 0 L = rd b acc (L.drop k) from hh)
    clear hh
    by_cases hkn : k < L.length
    · have hdrop : L.drop k = L[k] :: L.drop (k + 1) := List.drop_eq_getElem_cons hkn
      have hgx := HX k L[k] (List.getElem?_eq_getElem hkn)
      have hdl := hd L[k] (List.getElem_mem hkn)
      rw [hdrop] at hdec
      generalize L[k] = c at hgx hdl hdec
      have h17 := H17 c
      clear H17 HX hd hT hdrop
      obtain ⟨q, p, f1, f2, f3, f4, f5, f6⟩ := acc_facts b acc (dv c) hb hdl
      rw [← ha] at f2
      have h17' : ∀ w, Calls Tryd.prog 17 #[.int .u8 (c.toNat : Int)] w fun e w' => e = .returned (.int .i64 (dv c : Int)) ∧ w' = w := h17
      by_cases hover : acc * b + dv c < 18446744073709551616
      · have hF : rd b acc (c :: L.drop (k + 1)) = rd b (acc * b + dv c) (L.drop (k + 1)) := by simp [rd, hover]
        have HN : Hid (p + (dv c : Int) = ((acc * b + dv c : Nat) : Int) ∧ acc * b + dv c < 18446744073709551616 ∧ rd b 0 L = rd b (acc * b + dv c) (L.drop (k + 1))) :=
          (⟨by omega, hover, hdec.trans hF⟩ : p + (dv c : Int) = ((acc * b + dv c : Nat) : Int) ∧ acc * b + dv c < 18446744073709551616 ∧ rd b 0 L = rd b (acc * b + dv c) (L.drop (k + 1)))
        have g1 : ¬ q < a := by rw [ha]; intro h; have := f5 h; omega
        have g2 : p + (dv c : Int) ≤ 18446744073709551615 := by omega
        have g3 : (dv c : Int) < (b : Int) := by omega
        have g0 : 0 ≤ a := by omega
        have g00 : a ≤ 18446744073709551615 := by omega
        clear f3 f5 f6 hF hdec hacc hover ha h17 hdl
        have g4 : (0 : Int) ≤ (dv c : Int) := by omega
        obtain ⟨dc, hdc⟩ : ∃ dc : Int, dc = (dv c : Int) := ⟨_, rfl⟩
        rw [← hdc] at h17' HN g2 g3 g4
        clear hdc
        go_wp2_with (go_at_call 17; refine (h17' _).mono ?_; rintro e w' ⟨rfl, rfl⟩)
        exact ⟨⟨k + 1, acc * b + dv c, p + dc, rfl, (by first | rfl | (congr 1; omega)), by omega, HN⟩, by simp [intOf]; omega⟩
      · have hF : rd b acc (c :: L.drop (k + 1)) = none := by simp [rd, hover]
        have HE : Hid (rd b 0 L = none) := (hdec.trans hF : rd b 0 L = none)
        have g3 : (dv c : Int) < (b : Int) := by omega
        have g0 : 0 ≤ a := by omega
        have g00 : a ≤ 18446744073709551615 := by omega
        have g4 : (0 : Int) ≤ (dv c : Int) := by omega
        by_cases hqa : q < a
        · clear f3 f5 f6 hF hdec hacc hover ha h17 hdl
          obtain ⟨dc, hdc⟩ : ∃ dc : Int, dc = (dv c : Int) := ⟨_, rfl⟩
          rw [← hdc] at h17' g3 g4
          clear hdc
          go_wp2_with (go_at_call 17; refine (h17' _).mono ?_; rintro e w' ⟨rfl, rfl⟩)
          go_ret2
          refine ⟨?_, rfl⟩
          rw [show rd b 0 L = none from HE]
          rfl
        · have g1 : p ≤ 18446744073709551615 := f6 (by omega)
          have g2 : 18446744073709551616 ≤ p + (dv c : Int) := by omega
          have g5 : IntKind.u64.wrap (p + (dv c : Int)) = p + (dv c : Int) - 18446744073709551616 := by rw [IntKind.wrap_u64]; omega
          have g6 : ¬ q < a := hqa
          clear f3 f5 f6 hF hdec hacc hover ha h17 hdl hqa
          obtain ⟨dc, hdc⟩ : ∃ dc : Int, dc = (dv c : Int) := ⟨_, rfl⟩
          rw [← hdc] at h17' g2 g3 g4 g5
          clear hdc
          go_wp2_with (go_at_call 17; refine (h17' _).mono ?_; rintro e w' ⟨rfl, rfl⟩)
          go_ret2
          refine ⟨?_, rfl⟩
          rw [show rd b 0 L = none from HE]
          rfl
    · have hkk : k = L.length := by omega
      subst hkk
      have hF : rd b acc (L.drop L.length) = some acc := by rw [List.drop_eq_nil_of_le (by omega)]; rfl
      have HE : Hid (rd b 0 L = some acc) := (hdec.trans hF : rd b 0 L = some acc)
      subst ha
      clear hacc hF hdec H17 HX hT hd
      go_wp2
      go_ret2
      refine ⟨?_, rfl⟩
      rw [show rd b 0 L = some acc from HE]
      rfl
end Go.Proofs.YtabffkfoafcmpacDoor
