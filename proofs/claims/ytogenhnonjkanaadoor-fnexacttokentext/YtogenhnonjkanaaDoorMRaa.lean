import Derived.Test.YtogenhnonjkanaaDoorMSai
import Derived.Lib.ConvBytes
import Derived.Lib.AtoiErrMem
import Derived.Lib.AtoiAllMem
import Derived.Laws.Closers25
import Derived.Laws.Closers25b
import Derived.BigCall
import Derived.BigGuard
import Derived.Lib.IfaceNeq
import Derived.Lib.IfaceEq
import Derived.Deep.RegionWith
namespace Go.Proofs.YtogenhnonjkanaaDoor.Rd
open Go.ChangeShapes Go.WideShapes Go.ChangeAt Go.RowKit Go.Proofs.YtogenhnonjkanaaDoor
set_option linter.unusedVariables false
/-- what a byte is worth as a digit -/
def dv (c : UInt8) : Nat := if 48 ≤ c.toNat ∧ c.toNat ≤ 57 then c.toNat - 48 else if 97 ≤ c.toNat ∧ c.toNat ≤ 122 then c.toNat - 87 else 99
/-- the digit of the program's own: 36 for a byte that is none -/
def dw (c : UInt8) : Nat := if 48 ≤ c.toNat ∧ c.toNat ≤ 57 then c.toNat - 48 else if 97 ≤ c.toNat ∧ c.toNat ≤ 122 then c.toNat - 87 else 36
theorem impl_dig (c : UInt8) (w : World) : Calls Tryd.prog 91 #[.int .u8 (c.toNat : Int)] w fun e w' => e = .returned (.int .i64 (dw c : Int)) ∧ w' = w := by
  have hc := c.toNat_lt
  by_cases h1 : 48 ≤ c.toNat ∧ c.toNat ≤ 57
  · have e : (dw c : Int) = (c.toNat : Int) - 48 := by unfold dw; rw [if_pos h1]; omega
    rw [e]
    obtain ⟨h1, h2⟩ := h1
    have i1 : (48 : Int) ≤ (c.toNat : Int) := by omega
    have i2 : (c.toNat : Int) ≤ 57 := by omega
    clear e h1 h2
    generalize (c.toNat : Int) = n at *
    go_enter Tryd.func91, Tryd.ntmps91
    go_wp2
    go_ret
    exact ⟨rfl, rfl⟩
  · by_cases h2 : 97 ≤ c.toNat ∧ c.toNat ≤ 122
    · have e : (dw c : Int) = (c.toNat : Int) - 97 + 10 := by unfold dw; rw [if_neg h1, if_pos h2]; omega
      rw [e]
      have i0 : ¬ (c.toNat : Int) ≤ 57 := by omega
      have i1 : (97 : Int) ≤ (c.toNat : Int) := by omega
      have i2 : (c.toNat : Int) ≤ 122 := by omega
      have i3 : (48 : Int) ≤ (c.toNat : Int) := by omega
      clear e h1 h2
      generalize (c.toNat : Int) = n at *
      go_enter Tryd.func91, Tryd.ntmps91
      go_wp2
      go_ret
      exact ⟨rfl, rfl⟩
    · have e : (dw c : Int) = 36 := by unfold dw; rw [if_neg h1, if_neg h2]; rfl
      rw [e]
      have i0 : (c.toNat : Int) < 48 ∨ 57 < (c.toNat : Int) ∧ (c.toNat : Int) < 97 ∨ 122 < (c.toNat : Int) := by omega
      clear e h1 h2
      generalize (c.toNat : Int) = n at *
      rcases i0 with i | ⟨i, j⟩ | i
      all_goals
        go_enter Tryd.func91, Tryd.ntmps91
        go_wp2
        go_ret
        exact ⟨rfl, rfl⟩
theorem dv_dw (c : UInt8) (b : Nat) (hb : b ≤ 36) : (dv c < b) = (dw c < b) := by
  unfold dv dw
  split
  · rfl
  · split
    · rfl
    · simp; omega
/-- digits read as a number below 2^64 -/
def rd (b : Nat) : Nat → List UInt8 → Option Nat
  | acc, [] => some acc
  | acc, c :: r => if acc * b + dv c < 18446744073709551616 then rd b (acc * b + dv c) r else none
theorem acc_facts (b acc d : Nat) (hb : 2 ≤ b) (hd : d < b) : ∃ (q p : Int), 18446744073709551615 / (b : Int) = q ∧ (acc : Int) * (b : Int) = p ∧ p = ((acc * b : Nat) : Int) ∧ 0 ≤ p ∧ (q < acc → 18446744073709551616 ≤ acc * b + d) ∧ ((acc : Int) ≤ q → p ≤ 18446744073709551615) := by
  refine ⟨((18446744073709551615 / b : Nat) : Int), ((acc * b : Nat) : Int), by simp, by simp, rfl, by omega, fun h => ?_, fun h => ?_⟩
  · have h1 : 18446744073709551615 / b < acc := by omega
    have h2 := (Nat.div_lt_iff_lt_mul (by omega)).1 h1
    omega
  · have h1 : acc ≤ 18446744073709551615 / b := by omega
    have h2 := Nat.mul_le_mul_right b h1
    have h3 := Nat.div_mul_le_self 18446744073709551615 b
    omega
/-- what is answered behind the sign -/
def ansT (b : Nat) (neg : Bool) (R : List UInt8) : Int × Int :=
  if R = [] then (2, 0) else if R.all (fun c => decide (dv c < b)) = false then (2, 0) else
  match rd b 0 R with
  | none => (3, 0)
  | some v => if 9223372036854775808 < v ∨ (v = 9223372036854775808 ∧ neg = false) then (3, 0) else (0, if neg then -(v : Int) else v)
def whole (p : Int × Int) : Value := .agg #[.int .i64 p.1, .int .i64 p.2]
theorem emp (R : ByteArray) (h : 0 < R.data.toList.length) : R.toList.isEmpty = false := by
  rw [← decide_eq_emptyBytes]
  exact decide_eq_false (fun g => by rw [g] at h; simp at h)
theorem rd_lt (b : Nat) : ∀ (L : List UInt8) (acc v : Nat), acc < 18446744073709551616 → rd b acc L = some v → v < 18446744073709551616
  | [], acc, v, h, e => by simp [rd] at e; omega
  | c :: r, acc, v, h, e => by
    unfold rd at e
    split at e
    · rename_i hlt
      exact rd_lt b r _ v hlt e
    · cases e
theorem ans_nil (b : Nat) (neg : Bool) (R : List UInt8) (h : R.length = 0) : ansT b neg R = (2, 0) := by
  unfold ansT; rw [if_pos (by simpa using h)]
theorem ans_bad (b : Nat) (neg : Bool) (R : List UInt8) (c : UInt8) (hc : c ∈ R) (h : ¬ dv c < b) : ansT b neg R = (2, 0) := by
  unfold ansT
  by_cases hn : R = []
  · rw [if_pos hn]
  · rw [if_neg hn, if_pos]
    rw [List.all_eq_false]
    exact ⟨c, hc, by simpa using h⟩
theorem ans_good (b : Nat) (neg : Bool) (R : List UInt8) (hd : ∀ c ∈ R, dv c < b) (hne : 0 < R.length) : ansT b neg R = match rd b 0 R with
  | none => (3, 0)
  | some v => if 9223372036854775808 < v ∨ (v = 9223372036854775808 ∧ neg = false) then (3, 0) else (0, if neg then -(v : Int) else v) := by
  unfold ansT
  have h1 : R ≠ [] := by intro h; rw [h] at hne; simp at hne
  have h2 : R.all (fun c => decide (dv c < b)) = true := by rw [List.all_eq_true]; intro c hc; simpa using hd c hc
  rw [if_neg h1, if_neg (by rw [h2]; simp)]
theorem ans_none (b : Nat) (neg : Bool) (R : List UInt8) (hd : ∀ c ∈ R, dv c < b) (hne : 0 < R.length) (h : rd b 0 R = none) : ansT b neg R = (3, 0) := by
  rw [ans_good b neg R hd hne, h]
theorem ans_some (b : Nat) (neg : Bool) (R : List UInt8) (hd : ∀ c ∈ R, dv c < b) (hne : 0 < R.length) (v : Nat) (h : rd b 0 R = some v) : ansT b neg R = if 9223372036854775808 < v ∨ (v = 9223372036854775808 ∧ neg = false) then (3, 0) else (0, if neg then -(v : Int) else v) := by
  rw [ans_good b neg R hd hne, h]
/-- what ParseUint answers -/
def unt : Option Nat → Value
  | some v => .tuple #[.int .u64 (v : Int), .nilIface]
  | none => .tuple #[.int .u64 18446744073709551615, .iface 112 (.int .i64 1)]
theorem low26 : ∀ i : Fin 26, bits .or .u8 ((i.val + 97 : Nat) : Int) 32 = ((i.val + 97 : Nat) : Int) := by decide +kernel
theorem low_at (n : Nat) (h : 97 ≤ n) (h2 : n ≤ 122) : bits .or .u8 (n : Int) 32 = (n : Int) := by
  have := low26 ⟨n - 97, by omega⟩
  have e : n - 97 + 97 = n := by omega
  simp only [e] at this
  exact this
theorem empT (R : ByteArray) (h : 0 < R.size) : R.toList.isEmpty = false := by
  rw [← decide_eq_emptyBytes]
  exact decide_eq_false (fun g => by rw [g] at h; simp at h)
theorem lt_of_cell {w : World} {b off : Nat} {v : Value} (h : w.cell? ⟨b, off, none⟩ = some v) : b < w.heap.size := by
  refine Nat.lt_of_not_le fun g => ?_
  have e : w.heap[b]? = none := Array.getElem?_eq_none_iff.2 g
  simp [World.cell?, e] at h
def Kept (w w' : World) : Prop := w.keptBut w' (fun _ => False)
theorem Kept.refl (w : World) : Kept w w := World.keptBut_refl _ _
theorem is_base (b : Int) (z : Bool) (h : (decide (2 ≤ b) && decide (b ≤ 36)) = z) (w : World) :
    Calls Tryd.prog 51 #[.int .i64 b] w fun e w' => e = .returned (.bool z) ∧ w' = w := by
  by_cases h2 : 2 ≤ b
  · by_cases h3 : b ≤ 36
    · have e : z = true := by rw [← h]; simp [h2, h3]
      subst e
      have h4 : decide (b ≤ 36) = true := by simpa using h3
      clear h
      go_enter Tryd.func51, Tryd.ntmps51
      go_wp2
      go_ret
      exact ⟨rfl, rfl⟩
    · have e : z = false := by rw [← h]; simp [h3]
      subst e
      have h4 : decide (b ≤ 36) = false := by simpa using h3
      clear h
      go_enter Tryd.func51, Tryd.ntmps51
      go_wp2
      go_ret
      exact ⟨rfl, rfl⟩
  · have e : z = false := by rw [← h]; simp [h2]
    subst e
    clear h
    go_enter Tryd.func51, Tryd.ntmps51
    go_wp2
    go_ret
    exact ⟨rfl, rfl⟩

end Go.Proofs.YtogenhnonjkanaaDoor.Rd
namespace Go.Proofs.YtogenhnonjkanaaDoor.Rd
open Go.ChangeShapes Go.WideShapes Go.ChangeAt Go.RowKit Go.Proofs.YtogenhnonjkanaaDoor
set_option linter.unusedVariables false
set_option maxRecDepth 100000 in
set_option maxHeartbeats 8000000 in
theorem uint_10 (T : ByteArray) (L : List UInt8) (hT : T.data.toList = L) (hlen : L.length ≤ 1200) (hd : ∀ c ∈ L, dv c < 10) (hne : 0 < L.length) (w : World) :
    Calls Tryd.prog 96 #[.string T, .int .i64 10, .int .i64 64] w fun e w' => e = .returned (unt (rd 10 0 L)) ∧ w' = Lib.bytesWorld w 5 T := by
  have hsz : T.size = L.length := by rw [← hT]; simp
  have hemp := empT T (by omega)
  have hcv := Lib.run_convert_string_bytes (P := Tryd.prog) w 9 66 5 T (u := .string) Tryd.underlying9 Tryd.underlying66 Tryd.underlying5
  have hB : ∀ j c, L[j]? = some c → (Lib.bytesWorld w 5 T).cell? ⟨w.heap.size, j, none⟩ = some (.int .u8 (c.toNat : Int)) := fun j c hj => by
    have hlt : j < L.length := (List.getElem?_eq_some_iff.1 hj).1
    rw [Lib.bytesWorld_cell w 5 T j (by omega), hT, List.getD, hj]; rfl
  obtain ⟨W1, hW1⟩ : ∃ W1, W1 = Lib.bytesWorld w 5 T := ⟨_, rfl⟩
  rw [← hW1] at hcv hB ⊢
  clear hW1 hT
  have hmv : IntKind.u64.wrap (IntKind.u64.wrap 18446744073709551616 - 1) = 18446744073709551615 := by
    rw [IntKind.wrap_u64, IntKind.wrap_u64]
    decide
  go_enter Tryd.func96, Tryd.ntmps96
  go_wp2
  clear hcv hmv hemp
  go_loop [12, 13, 101] (fun vu vn vi => ∃ (k acc : Nat) (a : Int), vu = .bool false ∧ vn = .int .u64 a ∧ vi = .int .i64 k ∧ k ≤ L.length ∧ Hid (a = (acc : Int) ∧ acc < 18446744073709551616 ∧ rd 10 0 L = rd 10 acc (L.drop k)))
    (fun _ _ vi => L.length - (intOf vi).toNat)
  case atStart => exact ⟨0, 0, 0, rfl, rfl, rfl, by omega, (⟨rfl, by omega, rfl⟩ : (0 : Int) = ((0 : Nat) : Int) ∧ 0 < 18446744073709551616 ∧ rd 10 0 L = rd 10 0 (L.drop 0))⟩
  case round =>
    obtain ⟨k, acc, a, rfl, rfl, rfl, hk, hh⟩ := hrel
    obtain ⟨ha, hacc, hdec⟩ := (show a = (acc : Int) ∧ acc < 18446744073709551616 ∧ rd 10 0 L = rd 10 acc (L.drop k) from hh)
    clear hh
    have g0 : 0 ≤ a := by omega
    have g00 : a ≤ 18446744073709551615 := by omega
    by_cases hkn : k < L.length
    · have hdrop : L.drop k = L[k] :: L.drop (k + 1) := List.drop_eq_getElem_cons hkn
      have hc := hB k L[k] (List.getElem?_eq_getElem hkn)
      have hdl := hd L[k] (List.getElem_mem hkn)
      rw [hdrop] at hdec
      generalize L[k] = c at hc hdl hdec
      have hc256 : (c.toNat : Int) < 256 := by have := c.toNat_lt; omega
      clear hB hd hdrop
      obtain ⟨q, p, f1, f2, f3, f4, f5, f6⟩ := acc_facts 10 acc (dv c) (by omega) hdl
      rw [← ha] at f2
      have hkind : (48 ≤ (c.toNat : Int) ∧ (c.toNat : Int) ≤ 57 ∧ (dv c : Int) = (c.toNat : Int) - 48) ∨ (97 ≤ (c.toNat : Int) ∧ (c.toNat : Int) ≤ 122 ∧ (dv c : Int) = (c.toNat : Int) - 97 + 10 ∧ bits .or .u8 (c.toNat : Int) 32 = (c.toNat : Int)) := by
        unfold dv at hdl ⊢
        split at hdl
        · rename_i hh; rw [if_pos hh]; left; omega
        · rename_i hh
          rw [if_neg hh]
          split at hdl
          · rename_i hh2; rw [if_pos hh2]; right; exact ⟨by omega, by omega, by omega, low_at _ hh2.1 hh2.2⟩
          · omega
      have g3 : (dv c : Int) < 10 := by omega
      have g4 : (0 : Int) ≤ (dv c : Int) := by omega
      have fq : q = 1844674407370955161 := by rw [← f1]; decide
      have f2 : a * 10 = p := by simpa using f2
      by_cases hover : acc * 10 + dv c < 18446744073709551616
      · have hF : rd 10 acc (c :: L.drop (k + 1)) = rd 10 (acc * 10 + dv c) (L.drop (k + 1)) := by simp [rd, hover]
        have HN : Hid (p + (dv c : Int) = ((acc * 10 + dv c : Nat) : Int) ∧ acc * 10 + dv c < 18446744073709551616 ∧ rd 10 0 L = rd 10 (acc * 10 + dv c) (L.drop (k + 1))) :=
          (⟨by omega, hover, hdec.trans hF⟩ : p + (dv c : Int) = ((acc * 10 + dv c : Nat) : Int) ∧ acc * 10 + dv c < 18446744073709551616 ∧ rd 10 0 L = rd 10 (acc * 10 + dv c) (L.drop (k + 1)))
        have g1 : ¬ q < a := by rw [ha]; intro h; have := f5 h; omega
        have g2 : p + (dv c : Int) ≤ 18446744073709551615 := by omega
        have g5 : ¬ 1844674407370955162 ≤ a := by omega
        clear f3 f5 f6 hF hdec hacc hover ha hdl f1 fq
        rcases hkind with ⟨i1, i2, i3⟩ | ⟨i1, i2, i3, i4⟩
        · rw [i3] at g2 g3 g4 HN
          clear i3
          generalize (c.toNat : Int) = n at *
          go_wp2
          all_goals exact ⟨⟨k + 1, acc * 10 + dv c, p + (n - 48), rfl, (by first | rfl | (congr 1; omega)), (by first | rfl | (congr 1; omega)), by omega, HN⟩, by simp [intOf]; omega⟩
        · rw [i3] at g2 g3 g4 HN
          clear i3
          generalize (c.toNat : Int) = n at *
          go_wp2
          all_goals exact ⟨⟨k + 1, acc * 10 + dv c, p + (n - 97 + 10), rfl, (by first | rfl | (congr 1; omega)), (by first | rfl | (congr 1; omega)), by omega, HN⟩, by simp [intOf]; omega⟩
      · have hF : rd 10 acc (c :: L.drop (k + 1)) = none := by simp [rd, hover]
        have HE : Hid (rd 10 0 L = none) := (hdec.trans hF : rd 10 0 L = none)
        by_cases hqa : q < a
        · have g5 : 1844674407370955162 ≤ a := by omega
          clear f3 f5 f6 hF hdec hacc hover ha hdl f1 fq
          rcases hkind with ⟨i1, i2, i3⟩ | ⟨i1, i2, i3, i4⟩
          all_goals
            rw [i3] at g3 g4
            clear i3
            generalize (c.toNat : Int) = n at *
            go_wp2
            all_goals
              go_ret2
              refine ⟨?_, rfl⟩
              rw [show rd 10 0 L = none from HE]
              rfl
        · have g1 : p ≤ 18446744073709551615 := f6 (by omega)
          have g2 : 18446744073709551616 ≤ p + (dv c : Int) := by omega
          have g6 : ¬ 1844674407370955162 ≤ a := by omega
          have g5 : IntKind.u64.wrap (p + (dv c : Int)) = p + (dv c : Int) - 18446744073709551616 := by rw [IntKind.wrap_u64]; omega
          clear f3 f5 f6 hF hdec hacc hover ha hdl hqa f1 fq
          rcases hkind with ⟨i1, i2, i3⟩ | ⟨i1, i2, i3, i4⟩
          all_goals
            rw [i3] at g2 g3 g4 g5
            clear i3
            generalize (c.toNat : Int) = n at *
            go_wp2
            all_goals
              go_ret2
              refine ⟨?_, rfl⟩
              rw [show rd 10 0 L = none from HE]
              rfl
    · have hkk : k = L.length := by omega
      subst hkk
      have hF : rd 10 acc (L.drop L.length) = some acc := by rw [List.drop_eq_nil_of_le (by omega)]; rfl
      have HE : Hid (rd 10 0 L = some acc) := (hdec.trans hF : rd 10 0 L = some acc)
      subst ha
      clear hacc hF hdec hB hd
      go_wp2
      go_ret2
      refine ⟨?_, rfl⟩
      rw [show rd 10 0 L = some acc from HE]
      rfl
end Go.Proofs.YtogenhnonjkanaaDoor.Rd
namespace Go.Proofs.YtogenhnonjkanaaDoor.Rd
open Go.ChangeShapes Go.WideShapes Go.ChangeAt Go.RowKit Go.Proofs.YtogenhnonjkanaaDoor
set_option linter.unusedVariables false
set_option maxRecDepth 100000 in
set_option maxHeartbeats 8000000 in
theorem uint_16 (T : ByteArray) (L : List UInt8) (hT : T.data.toList = L) (hlen : L.length ≤ 1200) (hd : ∀ c ∈ L, dv c < 16) (hne : 0 < L.length) (w : World) :
    Calls Tryd.prog 96 #[.string T, .int .i64 16, .int .i64 64] w fun e w' => e = .returned (unt (rd 16 0 L)) ∧ w' = Lib.bytesWorld w 5 T := by
  have hsz : T.size = L.length := by rw [← hT]; simp
  have hemp := empT T (by omega)
  have hcv := Lib.run_convert_string_bytes (P := Tryd.prog) w 9 66 5 T (u := .string) Tryd.underlying9 Tryd.underlying66 Tryd.underlying5
  have hB : ∀ j c, L[j]? = some c → (Lib.bytesWorld w 5 T).cell? ⟨w.heap.size, j, none⟩ = some (.int .u8 (c.toNat : Int)) := fun j c hj => by
    have hlt : j < L.length := (List.getElem?_eq_some_iff.1 hj).1
    rw [Lib.bytesWorld_cell w 5 T j (by omega), hT, List.getD, hj]; rfl
  obtain ⟨W1, hW1⟩ : ∃ W1, W1 = Lib.bytesWorld w 5 T := ⟨_, rfl⟩
  rw [← hW1] at hcv hB ⊢
  clear hW1 hT
  have hmv : IntKind.u64.wrap (IntKind.u64.wrap 18446744073709551616 - 1) = 18446744073709551615 := by
    rw [IntKind.wrap_u64, IntKind.wrap_u64]
    decide
  go_enter Tryd.func96, Tryd.ntmps96
  go_wp2
  clear hcv hmv hemp
  go_loop [12, 13, 101] (fun vu vn vi => ∃ (k acc : Nat) (a : Int), vu = .bool false ∧ vn = .int .u64 a ∧ vi = .int .i64 k ∧ k ≤ L.length ∧ Hid (a = (acc : Int) ∧ acc < 18446744073709551616 ∧ rd 16 0 L = rd 16 acc (L.drop k)))
    (fun _ _ vi => L.length - (intOf vi).toNat)
  case atStart => exact ⟨0, 0, 0, rfl, rfl, rfl, by omega, (⟨rfl, by omega, rfl⟩ : (0 : Int) = ((0 : Nat) : Int) ∧ 0 < 18446744073709551616 ∧ rd 16 0 L = rd 16 0 (L.drop 0))⟩
  case round =>
    obtain ⟨k, acc, a, rfl, rfl, rfl, hk, hh⟩ := hrel
    obtain ⟨ha, hacc, hdec⟩ := (show a = (acc : Int) ∧ acc < 18446744073709551616 ∧ rd 16 0 L = rd 16 acc (L.drop k) from hh)
    clear hh
    have g0 : 0 ≤ a := by omega
    have g00 : a ≤ 18446744073709551615 := by omega
    by_cases hkn : k < L.length
    · have hdrop : L.drop k = L[k] :: L.drop (k + 1) := List.drop_eq_getElem_cons hkn
      have hc := hB k L[k] (List.getElem?_eq_getElem hkn)
      have hdl := hd L[k] (List.getElem_mem hkn)
      rw [hdrop] at hdec
      generalize L[k] = c at hc hdl hdec
      have hc256 : (c.toNat : Int) < 256 := by have := c.toNat_lt; omega
      clear hB hd hdrop
      obtain ⟨q, p, f1, f2, f3, f4, f5, f6⟩ := acc_facts 16 acc (dv c) (by omega) hdl
      rw [← ha] at f2
      have hkind : (48 ≤ (c.toNat : Int) ∧ (c.toNat : Int) ≤ 57 ∧ (dv c : Int) = (c.toNat : Int) - 48) ∨ (97 ≤ (c.toNat : Int) ∧ (c.toNat : Int) ≤ 122 ∧ (dv c : Int) = (c.toNat : Int) - 97 + 10 ∧ bits .or .u8 (c.toNat : Int) 32 = (c.toNat : Int)) := by
        unfold dv at hdl ⊢
        split at hdl
        · rename_i hh; rw [if_pos hh]; left; omega
        · rename_i hh
          rw [if_neg hh]
          split at hdl
          · rename_i hh2; rw [if_pos hh2]; right; exact ⟨by omega, by omega, by omega, low_at _ hh2.1 hh2.2⟩
          · omega
      have g3 : (dv c : Int) < 16 := by omega
      have g4 : (0 : Int) ≤ (dv c : Int) := by omega
      have fq : q = 1152921504606846975 := by rw [← f1]; decide
      by_cases hover : acc * 16 + dv c < 18446744073709551616
      · have hF : rd 16 acc (c :: L.drop (k + 1)) = rd 16 (acc * 16 + dv c) (L.drop (k + 1)) := by simp [rd, hover]
        have HN : Hid (p + (dv c : Int) = ((acc * 16 + dv c : Nat) : Int) ∧ acc * 16 + dv c < 18446744073709551616 ∧ rd 16 0 L = rd 16 (acc * 16 + dv c) (L.drop (k + 1))) :=
          (⟨by omega, hover, hdec.trans hF⟩ : p + (dv c : Int) = ((acc * 16 + dv c : Nat) : Int) ∧ acc * 16 + dv c < 18446744073709551616 ∧ rd 16 0 L = rd 16 (acc * 16 + dv c) (L.drop (k + 1)))
        have g1 : ¬ q < a := by rw [ha]; intro h; have := f5 h; omega
        have g2 : p + (dv c : Int) ≤ 18446744073709551615 := by omega
        have g5 : ¬ 1152921504606846976 ≤ a := by omega
        clear f3 f5 f6 hF hdec hacc hover ha hdl f1 fq
        rcases hkind with ⟨i1, i2, i3⟩ | ⟨i1, i2, i3, i4⟩
        · rw [i3] at g2 g3 g4 HN
          clear i3
          generalize (c.toNat : Int) = n at *
          go_wp2
          all_goals exact ⟨⟨k + 1, acc * 16 + dv c, p + (n - 48), rfl, (by first | rfl | (congr 1; omega)), (by first | rfl | (congr 1; omega)), by omega, HN⟩, by simp [intOf]; omega⟩
        · rw [i3] at g2 g3 g4 HN
          clear i3
          generalize (c.toNat : Int) = n at *
          go_wp2
          all_goals exact ⟨⟨k + 1, acc * 16 + dv c, p + (n - 97 + 10), rfl, (by first | rfl | (congr 1; omega)), (by first | rfl | (congr 1; omega)), by omega, HN⟩, by simp [intOf]; omega⟩
      · have hF : rd 16 acc (c :: L.drop (k + 1)) = none := by simp [rd, hover]
        have HE : Hid (rd 16 0 L = none) := (hdec.trans hF : rd 16 0 L = none)
        by_cases hqa : q < a
        · have g5 : 1152921504606846976 ≤ a := by omega
          clear f3 f5 f6 hF hdec hacc hover ha hdl f1 fq
          rcases hkind with ⟨i1, i2, i3⟩ | ⟨i1, i2, i3, i4⟩
          all_goals
            rw [i3] at g3 g4
            clear i3
            generalize (c.toNat : Int) = n at *
            go_wp2
            all_goals
              go_ret2
              refine ⟨?_, rfl⟩
              rw [show rd 16 0 L = none from HE]
              rfl
        · have g1 : p ≤ 18446744073709551615 := f6 (by omega)
          have g2 : 18446744073709551616 ≤ p + (dv c : Int) := by omega
          have g6 : ¬ 1152921504606846976 ≤ a := by omega
          have g5 : IntKind.u64.wrap (p + (dv c : Int)) = p + (dv c : Int) - 18446744073709551616 := by rw [IntKind.wrap_u64]; omega
          clear f3 f5 f6 hF hdec hacc hover ha hdl hqa f1 fq
          rcases hkind with ⟨i1, i2, i3⟩ | ⟨i1, i2, i3, i4⟩
          all_goals
            rw [i3] at g2 g3 g4 g5
            clear i3
            generalize (c.toNat : Int) = n at *
            go_wp2
            all_goals
              go_ret2
              refine ⟨?_, rfl⟩
              rw [show rd 16 0 L = none from HE]
              rfl
    · have hkk : k = L.length := by omega
      subst hkk
      have hF : rd 16 acc (L.drop L.length) = some acc := by rw [List.drop_eq_nil_of_le (by omega)]; rfl
      have HE : Hid (rd 16 0 L = some acc) := (hdec.trans hF : rd 16 0 L = some acc)
      subst ha
      clear hacc hF hdec hB hd
      go_wp2
      go_ret2
      refine ⟨?_, rfl⟩
      rw [show rd 16 0 L = some acc from HE]
      rfl
end Go.Proofs.YtogenhnonjkanaaDoor.Rd
namespace Go.Proofs.YtogenhnonjkanaaDoor.Rd
open Go.ChangeShapes Go.WideShapes Go.ChangeAt Go.RowKit Go.Proofs.YtogenhnonjkanaaDoor
set_option linter.unusedVariables false
theorem uint_any (b : Nat) (hb : b = 10) (hb2 : b ≤ 36) (T : ByteArray) (L : List UInt8) (hT : T.data.toList = L) (hlen : L.length ≤ 1200) (hd : ∀ c ∈ L, dv c < b) (hne : 0 < L.length) (w : World) :
    Calls Tryd.prog 96 #[.string T, .int .i64 (b : Int), .int .i64 64] w fun e w' => e = .returned (unt (rd b 0 L)) ∧ w' = Lib.bytesWorld w 5 T := by
  subst hb; exact uint_10 T L hT hlen hd hne w
theorem neq11 (W : World) : (binOp .neq 71 (.iface 112 (.int .i64 1)) (.iface 112 (.int .i64 1))).run Tryd.prog W = .ok (.bool false) W :=
  Lib.run_neq_iface_int W 1 1 Tryd.underlying71 (by kernel_rfl) Tryd.underlying112
theorem hmin : wrap64 (-wrap64 9223372036854775808) = -9223372036854775808 := by decide +kernel
/-- the number, or ErrRange -/
inductive Told27 (p : Int × Int) : Ending → Prop
  | ok {z : Int} (h : p = (0, z)) : Told27 p (.returned (.tuple #[.int .i64 z, .nilIface]))
  | err (h : p = (3, 0)) (s : Int) : Told27 p (.returned (.tuple #[.int .i64 s, .iface 112 (.int .i64 1)]))
theorem Told27.okE {p : Int × Int} {z y : Int} (h : p = (0, z)) (e : y = z) : Told27 p (.returned (.tuple #[.int .i64 y, .nilIface])) := by subst e; exact .ok h
set_option maxRecDepth 100000 in
set_option maxHeartbeats 4000000 in
theorem int_other (b : Nat) (hb : b = 10) (hb2 : b ≤ 36) (T R : ByteArray) (L LR : List UInt8) (hT : T.data.toList = L) (hlen : L.length ≤ 1200) (hR : R.data.toList = LR) (hTR : R = T) (c : UInt8) (r : List UInt8) (hL : LR = c :: r) (h1 : c.toNat ≠ 45) (h2 : c.toNat ≠ 43) (hall : ∀ c ∈ LR, dv c < b) (hne : 0 < LR.length) (w : World) :
    Calls Tryd.prog 98 #[.string T, .int .i64 b, .int .i64 64] w fun e w' => Told27 (ansT b false LR) e ∧ Below w.heap.size w w' := by
  have hsz : T.size = L.length := by rw [← hT]; simp
  have hlr : LR.length ≤ 1200 := by have : LR = L := hR.symm.trans (by rw [hTR]; exact hT); rw [this]; exact hlen
  have hU := uint_any b hb hb2 R LR hR hlr hall hne w
  clear hb
  have hbel := Lib.bytesWorld_below w 5 R
  generalize Lib.bytesWorld w 5 R = W1 at hU hbel
  have hq1 := neq11
  subst hTR
  have hx0 : ∀ w, (Instr.index 9 (.string R) (.int .i64 0)).run Tryd.prog w = .ok (.int .u8 (c.toNat : Int)) w := ix R LR hR 0 c (by rw [hL]; rfl)
  have hsr : R.size = LR.length := by rw [← hR]; simp
  have hemp := empT R (by omega)
  have j1 : ((c.toNat : Int) == 45) = false := by simp; omega
  have j2 : ((c.toNat : Int) == 43) = false := by simp; omega
  clear hT hL hlen hsz hR h1 h2 hsr
  generalize (c.toNat : Int) = n0 at *
  cases hrd : rd b 0 LR with
  | none =>
    have HE : Hid (ansT b false LR = (3, 0)) := ans_none b false LR hall hne hrd
    rw [hrd] at hU
    have hU' : Calls Tryd.prog 96 #[.string R, .int .i64 b, .int .i64 64] w fun e w' => e = .returned (.tuple #[.int .u64 18446744073709551615, .iface 112 (.int .i64 1)]) ∧ w' = W1 := hU
    clear hU hrd hall
    go_enter Tryd.func98, Tryd.ntmps98
    go_wp2_with (go_at_call 96; refine hU'.mono ?_; rintro e w1 ⟨rfl, rfl⟩)
    go_ret2
    exact ⟨Told27.err HE _, hbel⟩
  | some v =>
    have hvlt := rd_lt b LR 0 v (by omega) hrd
    have HE := ans_some b false LR hall hne v hrd
    rw [hrd] at hU
    have hU' : Calls Tryd.prog 96 #[.string R, .int .i64 b, .int .i64 64] w fun e w' => e = .returned (.tuple #[.int .u64 (v : Int), .nilIface]) ∧ w' = W1 := hU
    clear hU hrd hall
    rcases Nat.lt_trichotomy v 9223372036854775808 with hv | hv | hv
    · have HE2 : Hid (ansT b false LR = (0, (v : Int))) := by
        show ansT b false LR = (0, (v : Int))
        rw [HE, if_neg (by omega)]
        rfl
      have i0 : (0 : Int) ≤ (v : Int) := by omega
      have i1 : (v : Int) < 9223372036854775808 := by omega
      clear HE hv hvlt
      generalize (v : Int) = z at *
      go_enter Tryd.func98, Tryd.ntmps98
      go_wp2_with (go_at_call 96; refine hU'.mono ?_; rintro e w1 ⟨rfl, rfl⟩)
      go_ret2
      exact ⟨Told27.ok HE2, hbel⟩
    · subst hv
      have hU2 : Calls Tryd.prog 96 #[.string R, .int .i64 b, .int .i64 64] w fun e w' => e = .returned (.tuple #[.int .u64 9223372036854775808, .nilIface]) ∧ w' = W1 := hU'
      have HE2 : Hid (ansT b false LR = (3, 0)) := by
        show ansT b false LR = (3, 0)
        rw [HE]
        rfl
      clear HE hvlt hU'
      go_enter Tryd.func98, Tryd.ntmps98
      go_wp2_with (go_at_call 96; refine hU2.mono ?_; rintro e w1 ⟨rfl, rfl⟩)
      go_ret2
      exact ⟨Told27.err HE2 _, hbel⟩
    · have HE2 : Hid (ansT b false LR = (3, 0)) := by
        show ansT b false LR = (3, 0)
        rw [HE, if_pos (Or.inl hv)]
      have i0 : (9223372036854775808 : Int) < (v : Int) := by omega
      have i1 : (v : Int) < 18446744073709551616 := by omega
      clear HE hv hvlt
      generalize (v : Int) = z at *
      go_enter Tryd.func98, Tryd.ntmps98
      go_wp2_with (go_at_call 96; refine hU'.mono ?_; rintro e w1 ⟨rfl, rfl⟩)
      go_ret2
      exact ⟨Told27.err HE2 _, hbel⟩
end Go.Proofs.YtogenhnonjkanaaDoor.Rd
namespace Go.Proofs.YtogenhnonjkanaaDoor.Rd
open Go.ChangeShapes Go.WideShapes Go.ChangeAt Go.RowKit Go.Proofs.YtogenhnonjkanaaDoor
set_option linter.unusedVariables false
/-- the scan lies in block B, the answer in block A -/
structure Sc (w0 : World) (A B : Nat) (T : ByteArray) (k : Int) (w : World) : Prop where
  gr : Grown w0 w
  hA : w0.heap.size ≤ A
  hB : w0.heap.size ≤ B
  hAB : A ≠ B
  a0 : w.cell? ⟨A, 0, none⟩ = some (.int .i64 0)
  a1 : w.cell? ⟨A, 1, none⟩ = some (.int .i64 0)
  b0 : w.cell? ⟨B, 0, none⟩ = some (.string T)
  b1 : w.cell? ⟨B, 1, none⟩ = some (.int .i64 k)
  fA0 : w.frozen? ⟨A, 0, none⟩ = false
  fA1 : w.frozen? ⟨A, 1, none⟩ = false
  fB1 : w.frozen? ⟨B, 1, none⟩ = false
theorem Sc.drewN {w0 : World} {A B : Nat} {T : ByteArray} {k : Int} {w : World} (h : Sc w0 A B T k w) (n : Nat) : Sc w0 A B T k (w.drewN n) :=
  ⟨h.gr, h.hA, h.hB, h.hAB, h.a0, h.a1, h.b0, h.b1, h.fA0, h.fA1, h.fB1⟩
theorem Sc.set {w0 : World} {A B : Nat} {T : ByteArray} {k : Int} {w : World} (h : Sc w0 A B T k w) (k' : Int) : Sc w0 A B T k' (w.setCell ⟨B, 1, none⟩ (.int .i64 k')) := by
  have hne := h.hAB
  refine ⟨Grown.setCell h.gr h.hB _, h.hA, h.hB, h.hAB, ?_, ?_, ?_, World.cell?_setCell_same _ _ _ h.b1, ?_, ?_, ?_⟩
  · rw [World.cell?_setCell_other _ _ _ _ (by simp <;> omega)]; exact h.a0
  · rw [World.cell?_setCell_other _ _ _ _ (by simp <;> omega)]; exact h.a1
  · rw [World.cell?_setCell_other _ _ _ _ (by simp)]; exact h.b0
  · rw [World.frozen?_setCell]; exact h.fA0
  · rw [World.frozen?_setCell]; exact h.fA1
  · rw [World.frozen?_setCell]; exact h.fB1
theorem ended_run (B : Nat) (T : ByteArray) (k : Int) (z : Bool) (hz : (k == (T.size : Int)) = z) (w : World) (b0 : w.cell? ⟨B, 0, none⟩ = some (.string T)) (b1 : w.cell? ⟨B, 1, none⟩ = some (.int .i64 k)) :
    Calls Tryd.prog 40 #[.pointer (some ⟨B, 0, none⟩)] w fun e w' => e = .returned (.bool z) ∧ ∃ m, w' = w.drewN m := by
  go_enter Tryd.func40, Tryd.ntmps40
  go_wp2
  go_quiet (fail)
  go_wp2
  go_ret
  exact ⟨rfl, nq, rfl⟩
theorem ended_in (B : Nat) (T : ByteArray) (k : Int) (z : Bool) (hz : (k == (T.size : Int)) = z) (w : World) (b0 : w.cell? ⟨B, 0, none⟩ = some (.string T)) (b1 : w.cell? ⟨B, 1, none⟩ = some (.int .i64 k)) (n : Nat) :
    Calls Tryd.prog 40 #[.pointer (some ⟨B, 0, none⟩)] (w.drewN n) fun e w' => e = .returned (.bool z) ∧ ∃ m, w' = w.drewN m :=
  Calls.quiet_of (ended_run B T k z hz (w.drewN n) b0 b1)
theorem take_end {w0 : World} {A B : Nat} {T : ByteArray} {k : Int} (c : Int) (hk : k = (T.size : Int)) (w : World) (h : Sc w0 A B T k w) :
    Calls Tryd.prog 56 #[.pointer (some ⟨B, 0, none⟩), .int .u8 c] w fun e w' => e = .returned (.bool false) ∧ Sc w0 A B T k w' := by
  have H21 := ended_in B T k true (by simpa using hk) w h.b0 h.b1
  have HS : Hid (Sc w0 A B T k w) := h
  have b0 := h.b0
  have b1 := h.b1
  clear h hk
  go_enter Tryd.func56, Tryd.ntmps56
  go_wp2_with fail
  go_quiet ((go_at_call 40; exact H21 _))
  go_wp2_with fail
  go_ret
  exact ⟨rfl, (show Sc w0 A B T k w from HS).drewN _⟩
theorem take_no {w0 : World} {A B : Nat} {T : ByteArray} {k : Nat} (c : Int) (x : UInt8) (hx : T.data.toList[k]? = some x) (hc : ((x.toNat : Int) == c) = false) (w : World) (h : Sc w0 A B T k w) :
    Calls Tryd.prog 56 #[.pointer (some ⟨B, 0, none⟩), .int .u8 c] w fun e w' => e = .returned (.bool false) ∧ Sc w0 A B T k w' := by
  have hlt : k < T.size := by have := (List.getElem?_eq_some_iff.1 hx).1; simpa using this
  have H21 := ended_in B T k false (by simp; omega) w h.b0 h.b1
  have HS : Hid (Sc w0 A B T k w) := h
  have b0 := h.b0
  have b1 := h.b1
  have hix := ix T _ rfl k x hx
  clear h hlt hx
  generalize (x.toNat : Int) = xi at *
  go_enter Tryd.func56, Tryd.ntmps56
  go_wp2_with fail
  go_quiet ((go_at_call 40; exact H21 _))
  go_wp2_with fail
  go_ret
  exact ⟨rfl, (show Sc w0 A B T k w from HS).drewN _⟩
theorem take_yes {w0 : World} {A B : Nat} {T : ByteArray} {k : Nat} (x : UInt8) (hlen : T.size ≤ 1200) (hx : T.data.toList[k]? = some x) (w : World) (h : Sc w0 A B T k w) :
    Calls Tryd.prog 56 #[.pointer (some ⟨B, 0, none⟩), .int .u8 (x.toNat : Int)] w fun e w' => e = .returned (.bool true) ∧ Sc w0 A B T ((k : Int) + 1) w' := by
  have hlt : k < T.size := by have := (List.getElem?_eq_some_iff.1 hx).1; simpa using this
  have H21 := ended_in B T k false (by simp; omega) w h.b0 h.b1
  have HS : Hid (Sc w0 A B T k w) := h
  have b0 := h.b0
  have b1 := h.b1
  have f1 := h.fB1
  have hix := ix T _ rfl k x hx
  have hk2 : (k : Int) < 1200 := by omega
  clear h hlt hx
  generalize (x.toNat : Int) = xi at *
  go_enter Tryd.func56, Tryd.ntmps56
  go_wp2_with fail
  go_quiet ((go_at_call 40; exact H21 _))
  go_wp2_with fail
  go_ret
  exact ⟨rfl, ((show Sc w0 A B T k w from HS).drewN _).set _⟩
theorem sign_run {w0 : World} {A B : Nat} {T : ByteArray} (hlen : T.size ≤ 1200) (j : Nat)
    (hj : (T.size = 0 ∧ j = 0) ∨ (T.data.toList[0]? = some 45 ∧ j = 1) ∨ (T.data.toList[0]? = some 43 ∧ j = 1) ∨ (∃ x, T.data.toList[0]? = some x ∧ x.toNat ≠ 45 ∧ x.toNat ≠ 43 ∧ j = 0)) (w : World) (h : Sc w0 A B T ((0 : Nat) : Int) w) :
    Calls Tryd.prog 79 #[.pointer (some ⟨B, 0, none⟩)] w fun e w' => (∃ z, e = .returned (.bool z)) ∧ Sc w0 A B T (j : Int) w' := by
  rcases hj with ⟨h0, rfl⟩ | ⟨h0, rfl⟩ | ⟨h0, rfl⟩ | ⟨x, h0, h1, h2, rfl⟩
  · have HT := fun c w h => take_end (w0 := w0) (A := A) (B := B) (T := T) (k := ((0 : Nat) : Int)) c (by omega) w h
    go_enter Tryd.func79, Tryd.ntmps79
    go_wp2_with fail
    refine (HT _ _ h).mono ?_
    rintro e w1 ⟨rfl, g1⟩
    go_wp2_with fail
    refine (HT _ _ g1).mono ?_
    rintro e w2 ⟨rfl, g2⟩
    go_wp2_with fail
    go_ret
    exact ⟨⟨_, rfl⟩, g2⟩
  · have HT : ∀ w, Sc w0 A B T ((0 : Nat) : Int) w → Calls Tryd.prog 56 #[.pointer (some ⟨B, 0, none⟩), .int .u8 45] w fun e w' => e = .returned (.bool true) ∧ Sc w0 A B T (((0 : Nat) : Int) + 1) w' := fun w h => take_yes (k := 0) 45 hlen h0 w h
    go_enter Tryd.func79, Tryd.ntmps79
    go_wp2_with fail
    refine (HT _ h).mono ?_
    rintro e w1 ⟨rfl, g1⟩
    clear h HT
    go_wp2_with fail
    go_ret
    exact ⟨⟨_, rfl⟩, g1⟩
  · have HN := fun w h => take_no (w0 := w0) (A := A) (B := B) (T := T) (k := 0) 45 43 h0 (by decide) w h
    have HT : ∀ w, Sc w0 A B T ((0 : Nat) : Int) w → Calls Tryd.prog 56 #[.pointer (some ⟨B, 0, none⟩), .int .u8 43] w fun e w' => e = .returned (.bool true) ∧ Sc w0 A B T (((0 : Nat) : Int) + 1) w' := fun w h => take_yes (k := 0) 43 hlen h0 w h
    go_enter Tryd.func79, Tryd.ntmps79
    go_wp2_with fail
    refine (HN _ h).mono ?_
    rintro e w1 ⟨rfl, g1⟩
    clear h HN
    go_wp2_with fail
    refine (HT _ g1).mono ?_
    rintro e w2 ⟨rfl, g2⟩
    clear g1 HT
    go_wp2_with fail
    go_ret
    exact ⟨⟨_, rfl⟩, g2⟩
  · have HN := fun w h => take_no (w0 := w0) (A := A) (B := B) (T := T) (k := 0) 45 x h0 (by simp; omega) w h
    have HM := fun w h => take_no (w0 := w0) (A := A) (B := B) (T := T) (k := 0) 43 x h0 (by simp; omega) w h
    go_enter Tryd.func79, Tryd.ntmps79
    go_wp2_with fail
    refine (HN _ h).mono ?_
    rintro e w1 ⟨rfl, g1⟩
    clear h HN
    go_wp2_with fail
    refine (HM _ g1).mono ?_
    rintro e w2 ⟨rfl, g2⟩
    clear g1 HM
    go_wp2_with fail
    go_ret
    exact ⟨⟨_, rfl⟩, g2⟩
/-- where the scan stands -/
def atOf (B : Nat) (w : World) : Nat := match w.cell? ⟨B, 1, none⟩ with
  | some (.int _ k) => k.toNat
  | _ => 0
theorem atOf_sc {w0 : World} {A B : Nat} {T : ByteArray} {k : Int} {w : World} (h : Sc w0 A B T k w) : atOf B w = k.toNat := by
  unfold atOf; rw [h.b1]
set_option maxRecDepth 100000 in
set_option maxHeartbeats 2000000 in
theorem digits_run {w0 : World} {A B : Nat} {T : ByteArray} (b : Nat) (hb2 : b ≤ 36) (hlen : T.size ≤ 1200) (k0 k1 : Nat) (h01 : k0 ≤ k1) (h1 : k1 ≤ T.size)
    (hgood : ∀ j, k0 ≤ j → j < k1 → ∃ x, T.data.toList[j]? = some x ∧ dw x < b)
    (hstop : k1 = T.size ∨ ∃ x, T.data.toList[k1]? = some x ∧ ¬ dw x < b) (w : World) (h : Sc w0 A B T (k0 : Int) w) :
    Calls Tryd.prog 77 #[.pointer (some ⟨B, 0, none⟩), .int .i64 (b : Int)] w fun e w' => e = .returned (.string (T.extract k0 k1)) ∧ Sc w0 A B T (k1 : Int) w' := by
  have HS : Hid (Sc w0 A B T k0 w) := h
  have b1 := h.b1
  clear h
  have HG : Hid (∀ j, k0 ≤ j → j < k1 → ∃ x, T.data.toList[j]? = some x ∧ dw x < b) := hgood
  have HP : Hid (k1 = T.size ∨ ∃ x, T.data.toList[k1]? = some x ∧ ¬ dw x < b) := hstop
  clear hgood hstop
  go_enter Tryd.func77, Tryd.ntmps77
  go_wp2_with fail
  clear b1
  go_loopw [] (fun wr => ∃ k : Nat, Hid (Sc w0 A B T (k : Int) wr) ∧ k0 ≤ k ∧ k ≤ k1) (fun wr => T.size - atOf B wr)
  case atStart => exact ⟨k0, HS, by omega, h01⟩
  case round =>
    clear HS
    obtain ⟨k, HS, hk0, hk1⟩ := hrel
    have hS := (show Sc w0 A B T (k : Int) wr from HS)
    have b0 := hS.b0
    have b1 := hS.b1
    have f1 := hS.fB1
    have hat := atOf_sc hS
    by_cases hlt : k < k1
    · obtain ⟨x, hx, hd⟩ := (show ∀ j, k0 ≤ j → j < k1 → ∃ x, T.data.toList[j]? = some x ∧ dw x < b from HG) k hk0 hlt
      have hix := ix T _ rfl k x hx
      have H21 := ended_in B T k false (by simp; omega) wr b0 b1
      have H26 := impl_dig x
      have hd2 : (dw x : Int) < (b : Int) := by omega
      have hk2 : (k : Int) < 1200 := by omega
      have HN : ∀ n, Sc w0 A B T ((k + 1 : Nat) : Int) ((wr.drewN n).setCell ⟨B, 1, none⟩ (.int .i64 ((k : Int) + 1))) := fun n => (hS.drewN n).set _
      have HN' : Hid (∀ n, Sc w0 A B T ((k + 1 : Nat) : Int) ((wr.drewN n).setCell ⟨B, 1, none⟩ (.int .i64 ((k : Int) + 1)))) := HN
      clear hS HS HG HP hx hd HN
      generalize (dw x : Int) = dd at *
      generalize (x.toNat : Int) = xi at *
      go_wp2_with fail
      go_quiet ((first | (go_at_call 40; exact H21 _) | (go_at_call 91; exact Calls.quiet_of_same (H26 _))))
      go_wp2_with fail
      have hN := (show ∀ n, Sc w0 A B T ((k + 1 : Nat) : Int) ((wr.drewN n).setCell ⟨B, 1, none⟩ (.int .i64 ((k : Int) + 1))) from HN') nq
      refine ⟨⟨k + 1, hN, by omega, by omega⟩, ?_⟩
      rw [atOf_sc hN, hat]
      omega
    · obtain rfl : k = k1 := by omega
      have hsl : ∀ W : World, (Instr.slice 9 (.string T) (some (.int .i64 (k0 : Int))) (some (.int .i64 (k : Int))) none).run Tryd.prog W = .ok (.string (T.extract k0 k)) W := by
        intro W
        rw [run_slice_string (P := Tryd.prog) W 9 T .i64 .i64 (k0 : Int) (k : Int) Tryd.underlying9 (by omega) (by omega) (by omega)]
        simp
      have HN' : Hid (∀ n, Sc w0 A B T (k : Int) (wr.drewN n)) := (fun n => hS.drewN n : ∀ n, Sc w0 A B T (k : Int) (wr.drewN n))
      rcases (show k = T.size ∨ ∃ x, T.data.toList[k]? = some x ∧ ¬ dw x < b from HP) with hst | ⟨x, hx, hd⟩
      · have H21 := ended_in B T k true (by simp; omega) wr b0 b1
        clear hS HS HG HP hst
        go_wp2_with fail
        go_quiet ((first | (go_at_call 40; exact H21 _)))
        go_wp2_with fail
        have hS2 := (show ∀ n, Sc w0 A B T (k : Int) (wr.drewN n) from HN') nq
        clear HN' b0 b1 f1 hat
        generalize wr.drewN nq = W at *
        have b0 := hS2.b0
        have b1 := hS2.b1
        have HS3 : Hid (Sc w0 A B T (k : Int) W) := hS2
        clear hS2
        go_quiet (fail)
        go_wp2_with fail
        go_ret
        exact ⟨rfl, (show Sc w0 A B T (k : Int) W from HS3).drewN _⟩
      · have hlt2 : k < T.size := by have := (List.getElem?_eq_some_iff.1 hx).1; simpa using this
        have hix := ix T _ rfl k x hx
        have H21 := ended_in B T k false (by simp; omega) wr b0 b1
        have H26 := impl_dig x
        have hd2 : ¬ (dw x : Int) < (b : Int) := by omega
        clear hS HS HG HP hx hd
        generalize (dw x : Int) = dd at *
        generalize (x.toNat : Int) = xi at *
        go_wp2_with fail
        go_quiet ((first | (go_at_call 40; exact H21 _) | (go_at_call 91; exact Calls.quiet_of_same (H26 _))))
        go_wp2_with fail
        have hS2 := (show ∀ n, Sc w0 A B T (k : Int) (wr.drewN n) from HN') nq
        clear HN' b0 b1 f1 hat
        generalize wr.drewN nq = W at *
        have b0 := hS2.b0
        have b1 := hS2.b1
        have HS3 : Hid (Sc w0 A B T (k : Int) W) := hS2
        clear hS2
        go_quiet (fail)
        go_wp2_with fail
        go_ret
        exact ⟨rfl, (show Sc w0 A B T (k : Int) W from HS3).drewN _⟩
end Go.Proofs.YtogenhnonjkanaaDoor.Rd
namespace Go.Proofs.YtogenhnonjkanaaDoor.Rd
open Go.ChangeShapes Go.WideShapes Go.ChangeAt Go.RowKit Go.Proofs.YtogenhnonjkanaaDoor
set_option linter.unusedVariables false
theorem Kept.trans {a b c : World} (h : Kept a b) (g : Kept b c) : Kept a c := World.keptBut_trans h g
theorem Kept.set {W w' : World} (h : Kept W w') {a : Addr} (ha : W.heap.size ≤ a.block) (v : Value) : Kept W (w'.setCell a v) := by
  obtain ⟨h1, h2, h3⟩ := h
  refine ⟨h1, h2, fun i hi => ?_⟩
  have e : (w'.setCell a v).heap[i]? = w'.heap[i]? := by
    simp only [World.setCell, Array.getElem?_modify]
    rw [if_neg (by omega)]
  rw [e]
  exact h3 i hi
/-- the number, or some error -/
inductive Told22 (p : Int × Int) : Ending → Prop
  | ok {z : Int} (h : p = (0, z)) : Told22 p (.returned (.tuple #[.int .i64 z, .nilIface]))
  | err (h : p = (3, 0)) (s : Int) (t : TypeId) (v : Value) : Told22 p (.returned (.tuple #[.int .i64 s, .iface t v]))
theorem sc_start (T : ByteArray) (w : World) : Sc w w.heap.size (w.heap.size + 1) T ((0 : Nat) : Int) ((w.alloc (.cells #[.int .i64 0, .int .i64 0] 94)).alloc (.cells #[.string T, .int .i64 0] 40)) := by
  refine ⟨Grown.alloc (Grown.alloc (Grown.refl w) _ _) _ _, by omega, by omega, by omega, by simp, by simp, by simp, by simp, ?_, ?_, ?_⟩
  all_goals simp
set_option maxRecDepth 100000 in
set_option maxHeartbeats 2000000 in
theorem impl_read_empty (b : Nat) (hb : 2 ≤ b) (hb2 : b ≤ 36) (T : ByteArray) (hlen : T.size ≤ 1200) (j k1 : Nat) (X : ByteArray)
    (H19 : ∀ {w0 : World} {A B : Nat} (w : World), Sc w0 A B T ((0 : Nat) : Int) w → Calls Tryd.prog 79 #[.pointer (some ⟨B, 0, none⟩)] w fun e w' => (∃ z, e = .returned (.bool z)) ∧ Sc w0 A B T (j : Int) w')
    (H20 : ∀ {w0 : World} {A B : Nat} (w : World), Sc w0 A B T (j : Int) w → Calls Tryd.prog 77 #[.pointer (some ⟨B, 0, none⟩), .int .i64 (b : Int)] w fun e w' => e = .returned (.string X) ∧ Sc w0 A B T (k1 : Int) w') (hX : X = ⟨#[]⟩) (w : World) :
    Calls Tryd.prog 80 #[.string T, .int .i64 (b : Int)] w fun e w' => e = .returned (whole (2, 0)) ∧ Kept w w' := by
  subst hX
  have HB := is_base (b : Int) true (by simp; omega)
  have hs := sc_start T w
  have h19 := H19 (w0 := w) (A := w.heap.size) (B := w.heap.size + 1)
  have h20 := H20 (w0 := w) (A := w.heap.size) (B := w.heap.size + 1)
  clear H19 H20
  go_enter Tryd.func80, Tryd.ntmps80
  go_wp2_with fail
  refine (HB _).mono ?_
  rintro e w' ⟨rfl, hw⟩
  subst hw
  clear HB
  go_wp2_with fail
  refine (h19 _ hs).mono ?_
  rintro e w1 ⟨⟨z, rfl⟩, s1⟩
  clear h19 hs
  go_wp2_with fail
  refine (h20 _ s1).mono ?_
  rintro e w2 ⟨rfl, s2⟩
  clear h20 s1
  have a0 := s2.a0
  have a1 := s2.a1
  have f0 := s2.fA0
  have f1 := s2.fA1
  have hk : Kept w w2 := s2.gr.1
  clear s2
  have e0 : ∀ v : Value, (w2.setCell ⟨w.heap.size, 0, none⟩ v).cell? ⟨w.heap.size, 0, none⟩ = some v := fun v => World.cell?_setCell_same _ _ _ a0
  have e1 : ∀ v u : Value, ((w2.setCell ⟨w.heap.size, 0, none⟩ v).setCell ⟨w.heap.size, 1, none⟩ u).cell? ⟨w.heap.size, 1, none⟩ = some u := fun v u => World.cell?_setCell_same _ _ _ (by rw [World.cell?_setCell_other _ _ _ _ (by simp)]; exact a1)
  go_wp2_with fail
  refine bodyPost_ret (by simp [results, Tryd.results80, go_sem, e0, e1]; try rfl) rfl ?_
  refine ⟨rfl, Kept.set (Kept.set hk (Nat.le_refl _) _) (Nat.le_refl _) _⟩
set_option maxRecDepth 100000 in
set_option maxHeartbeats 2000000 in
theorem impl_read_bad (b : Nat) (hb : 2 ≤ b) (hb2 : b ≤ 36) (T : ByteArray) (hlen : T.size ≤ 1200) (j k1 : Nat) (X : ByteArray)
    (H19 : ∀ {w0 : World} {A B : Nat} (w : World), Sc w0 A B T ((0 : Nat) : Int) w → Calls Tryd.prog 79 #[.pointer (some ⟨B, 0, none⟩)] w fun e w' => (∃ z, e = .returned (.bool z)) ∧ Sc w0 A B T (j : Int) w')
    (H20 : ∀ {w0 : World} {A B : Nat} (w : World), Sc w0 A B T (j : Int) w → Calls Tryd.prog 77 #[.pointer (some ⟨B, 0, none⟩), .int .i64 (b : Int)] w fun e w' => e = .returned (.string X) ∧ Sc w0 A B T (k1 : Int) w') (hX : X.toList.isEmpty = false) (hk1 : k1 ≠ T.size) (w : World) :
    Calls Tryd.prog 80 #[.string T, .int .i64 (b : Int)] w fun e w' => e = .returned (whole (2, 0)) ∧ Kept w w' := by
  have HB := is_base (b : Int) true (by simp; omega)
  have hs := sc_start T w
  have h19 := H19 (w0 := w) (A := w.heap.size) (B := w.heap.size + 1)
  have h20 := H20 (w0 := w) (A := w.heap.size) (B := w.heap.size + 1)
  clear H19 H20
  go_enter Tryd.func80, Tryd.ntmps80
  go_wp2_with fail
  refine (HB _).mono ?_
  rintro e w' ⟨rfl, hw⟩
  subst hw
  clear HB
  go_wp2_with fail
  refine (h19 _ hs).mono ?_
  rintro e w1 ⟨⟨z, rfl⟩, s1⟩
  clear h19 hs
  go_wp2_with fail
  refine (h20 _ s1).mono ?_
  rintro e w2 ⟨rfl, s2⟩
  clear h20 s1
  have a0 := s2.a0
  have a1 := s2.a1
  have f0 := s2.fA0
  have f1 := s2.fA1
  have hk : Kept w w2 := s2.gr.1
  have h21 := ended_run (w.heap.size + 1) T (k1 : Int) false (by simp; omega) w2 s2.b0 s2.b1
  clear s2
  go_wp2_with fail
  refine h21.mono ?_
  rintro e w3 ⟨rfl, m, hw3⟩
  clear h21
  replace a0 : w3.cell? ⟨w.heap.size, 0, none⟩ = some (.int .i64 0) := by rw [hw3]; exact a0
  replace a1 : w3.cell? ⟨w.heap.size, 1, none⟩ = some (.int .i64 0) := by rw [hw3]; exact a1
  replace f0 : w3.frozen? ⟨w.heap.size, 0, none⟩ = false := by rw [hw3]; exact f0
  replace f1 : w3.frozen? ⟨w.heap.size, 1, none⟩ = false := by rw [hw3]; exact f1
  replace hk : Kept w w3 := by rw [hw3]; exact hk
  clear hw3
  have e0 : ∀ v : Value, (w3.setCell ⟨w.heap.size, 0, none⟩ v).cell? ⟨w.heap.size, 0, none⟩ = some v := fun v => World.cell?_setCell_same _ _ _ a0
  have e1 : ∀ v u : Value, ((w3.setCell ⟨w.heap.size, 0, none⟩ v).setCell ⟨w.heap.size, 1, none⟩ u).cell? ⟨w.heap.size, 1, none⟩ = some u := fun v u => World.cell?_setCell_same _ _ _ (by rw [World.cell?_setCell_other _ _ _ _ (by simp)]; exact a1)
  go_wp2_with fail
  refine bodyPost_ret (by simp [results, Tryd.results80, go_sem, e0, e1]; try rfl) rfl ?_
  refine ⟨rfl, Kept.set (Kept.set hk (Nat.le_refl _) _) (Nat.le_refl _) _⟩
set_option maxRecDepth 100000 in
set_option maxHeartbeats 2000000 in
theorem impl_read_good (b : Nat) (hb : 2 ≤ b) (hb2 : b ≤ 36) (T : ByteArray) (hlen : T.size ≤ 1200) (j k1 : Nat) (X : ByteArray)
    (H19 : ∀ {w0 : World} {A B : Nat} (w : World), Sc w0 A B T ((0 : Nat) : Int) w → Calls Tryd.prog 79 #[.pointer (some ⟨B, 0, none⟩)] w fun e w' => (∃ z, e = .returned (.bool z)) ∧ Sc w0 A B T (j : Int) w')
    (H20 : ∀ {w0 : World} {A B : Nat} (w : World), Sc w0 A B T (j : Int) w → Calls Tryd.prog 77 #[.pointer (some ⟨B, 0, none⟩), .int .i64 (b : Int)] w fun e w' => e = .returned (.string X) ∧ Sc w0 A B T (k1 : Int) w') (hX : X.toList.isEmpty = false) (hk1 : k1 = T.size) (p : Int × Int) (ev : Value)
    (H22 : ∀ W : World, W.cell? ⟨7, 0, none⟩ = some ev → Calls Tryd.prog 92 #[.string T, .int .i64 (b : Int), .int .i64 64] W fun e w' => Told22 p e ∧ Below W.heap.size W w')
    (w : World) (hv : w.cell? ⟨7, 0, none⟩ = some ev) :
    Calls Tryd.prog 80 #[.string T, .int .i64 (b : Int)] w fun e w' => e = .returned (whole p) ∧ Kept w w' := by
  have HB := is_base (b : Int) true (by simp; omega)
  have hs := sc_start T w
  have h19 := H19 (w0 := w) (A := w.heap.size) (B := w.heap.size + 1)
  have h20 := H20 (w0 := w) (A := w.heap.size) (B := w.heap.size + 1)
  clear H19 H20
  go_enter Tryd.func80, Tryd.ntmps80
  go_wp2_with fail
  refine (HB _).mono ?_
  rintro e w' ⟨rfl, hw⟩
  subst hw
  clear HB
  go_wp2_with fail
  refine (h19 _ hs).mono ?_
  rintro e w1 ⟨⟨z, rfl⟩, s1⟩
  clear h19 hs
  go_wp2_with fail
  refine (h20 _ s1).mono ?_
  rintro e w2 ⟨rfl, s2⟩
  clear h20 s1
  have a0 := s2.a0
  have a1 := s2.a1
  have f0 := s2.fA0
  have f1 := s2.fA1
  have hk : Kept w w2 := s2.gr.1
  have h21 := ended_run (w.heap.size + 1) T (k1 : Int) true (by simp; omega) w2 s2.b0 s2.b1
  clear s2 hk1
  go_wp2_with fail
  refine h21.mono ?_
  rintro e w3 ⟨rfl, m, hw3⟩
  clear h21
  replace a0 : w3.cell? ⟨w.heap.size, 0, none⟩ = some (.int .i64 0) := by rw [hw3]; exact a0
  replace a1 : w3.cell? ⟨w.heap.size, 1, none⟩ = some (.int .i64 0) := by rw [hw3]; exact a1
  replace f0 : w3.frozen? ⟨w.heap.size, 0, none⟩ = false := by rw [hw3]; exact f0
  replace f1 : w3.frozen? ⟨w.heap.size, 1, none⟩ = false := by rw [hw3]; exact f1
  replace hk : Kept w w3 := by rw [hw3]; exact hk
  clear hw3
  have h22 := H22 w3 (by rw [World.keptBut.cell hk (lt_of_cell hv) (fun f => f)]; exact hv)
  clear H22 hv
  go_wp2_with fail
  refine h22.mono ?_
  rintro e w4 ⟨ht, hbel⟩
  have hA : w.heap.size < w3.heap.size := lt_of_cell a0
  replace a0 : w4.cell? ⟨w.heap.size, 0, none⟩ = some (.int .i64 0) := (hbel.cell hA).trans a0
  replace a1 : w4.cell? ⟨w.heap.size, 1, none⟩ = some (.int .i64 0) := (hbel.cell hA).trans a1
  replace f0 : w4.frozen? ⟨w.heap.size, 0, none⟩ = false := by rw [← f0]; simp only [World.frozen?, hbel.block _ hA]
  replace f1 : w4.frozen? ⟨w.heap.size, 1, none⟩ = false := by rw [← f1]; simp only [World.frozen?, hbel.block _ hA]
  replace hk : Kept w w4 := Kept.trans hk (hbel.frame _)
  clear hbel h22 hA
  cases ht with
  | ok h =>
    subst h
    have e0 : ∀ v : Value, (w4.setCell ⟨w.heap.size, 0, none⟩ v).cell? ⟨w.heap.size, 0, none⟩ = some v := fun v => World.cell?_setCell_same _ _ _ a0
    have e1 : ∀ v u : Value, ((w4.setCell ⟨w.heap.size, 0, none⟩ v).setCell ⟨w.heap.size, 1, none⟩ u).cell? ⟨w.heap.size, 1, none⟩ = some u := fun v u => World.cell?_setCell_same _ _ _ (by rw [World.cell?_setCell_other _ _ _ _ (by simp)]; exact a1)
    go_wp2_with fail
    refine bodyPost_ret (by simp [results, Tryd.results80, go_sem, e0, e1]; try rfl) rfl ?_
    refine ⟨rfl, Kept.set (Kept.set hk (Nat.le_refl _) _) (Nat.le_refl _) _⟩
  | err h s t v =>
    subst h
    have e0 : ∀ v : Value, (w4.setCell ⟨w.heap.size, 0, none⟩ v).cell? ⟨w.heap.size, 0, none⟩ = some v := fun v => World.cell?_setCell_same _ _ _ a0
    have e1 : ∀ v u : Value, ((w4.setCell ⟨w.heap.size, 0, none⟩ v).setCell ⟨w.heap.size, 1, none⟩ u).cell? ⟨w.heap.size, 1, none⟩ = some u := fun v u => World.cell?_setCell_same _ _ _ (by rw [World.cell?_setCell_other _ _ _ _ (by simp)]; exact a1)
    go_wp2_with fail
    refine bodyPost_ret (by simp [results, Tryd.results80, go_sem, e0, e1]; try rfl) rfl ?_
    refine ⟨rfl, Kept.set (Kept.set hk (Nat.le_refl _) _) (Nat.le_refl _) _⟩
set_option maxRecDepth 100000 in
set_option maxHeartbeats 2000000 in
theorem impl_read_none (b : Int) (T : ByteArray) (h : b < 2 ∨ 36 < b ∨ 1200 < (T.size : Int)) (w : World) :
    Calls Tryd.prog 80 #[.string T, .int .i64 b] w fun e w' => e = .returned (whole (1, 0)) ∧ Kept w w' := by
  by_cases hb : b < 2 ∨ 36 < b
  · have HB := is_base b false (by simp; omega)
    clear h hb
    go_enter Tryd.func80, Tryd.ntmps80
    go_wp2_with fail
    refine (HB _).mono ?_
    rintro e w' ⟨rfl, hw⟩
    subst hw
    clear HB
    go_wp2_with fail
    go_returns
    exact ⟨rfl, (show Grown w _ by go_grown).1⟩
  · have HB := is_base b true (by simp; omega)
    have h3 : 1200 < (T.size : Int) := by omega
    clear h hb
    go_enter Tryd.func80, Tryd.ntmps80
    go_wp2_with fail
    refine (HB _).mono ?_
    rintro e w' ⟨rfl, hw⟩
    subst hw
    clear HB
    go_wp2_with fail
    go_returns
    exact ⟨rfl, (show Grown w _ by go_grown).1⟩
end Go.Proofs.YtogenhnonjkanaaDoor.Rd
namespace Go.Proofs.YtogenhnonjkanaaDoor.Rd
open Go.ChangeShapes Go.WideShapes Go.ChangeAt Go.RowKit Go.Proofs.YtogenhnonjkanaaDoor
set_option linter.unusedVariables false
theorem range_err (fn s : ByteArray) (hC : ∀ w, Calls Tryd.prog 89 #[.string s] w fun e w' => e = .returned (.string s) ∧ Below w.heap.size w w') (te : TypeId) (pe : Value) (w : World) (hv : w.cell? ⟨7, 0, none⟩ = some (.iface te pe)) :
    Calls Tryd.prog 102 #[.string fn, .string s] w fun e w' => (∃ a, e = .returned (.pointer (some a))) ∧ Below w.heap.size w w' := by
  have hG : 7 < w.heap.size := lt_of_cell hv
  have hvd : w.drew.cell? ⟨7, 0, none⟩ = some (.iface te pe) := hv
  go_enter Tryd.func102, Tryd.ntmps102
  go_wp2
  go_region_with (
      go_at_call 89
      refine (hC _).mono ?_
      rintro e w2 ⟨rfl, hbel⟩
      have hv2 : w2.cell? ⟨7, 0, none⟩ = some (.iface te pe) := (hbel.cell (show 7 < w.drew.heap.size from hG)).trans hvd)
  all_goals (
    go_wp2
    go_ret
    have hs2 : w.heap.size ≤ w2.heap.size := hbel.size
    exact ⟨⟨_, rfl⟩, ((Below.drew (Below.refl _ w)).trans hbel).alloc hs2 _⟩)
theorem eql12 (W : World) : (binOp .eql 71 (.iface 112 (.int .i64 1)) (.iface 112 (.int .i64 2))).run Tryd.prog W = .ok (.bool false) W :=
  Lib.run_eql_iface_int W 1 2 Tryd.underlying71 (by kernel_rfl) Tryd.underlying112
theorem eql11 (W : World) : (binOp .eql 71 (.iface 112 (.int .i64 1)) (.iface 112 (.int .i64 1))).run Tryd.prog W = .ok (.bool true) W :=
  Lib.run_eql_iface_int W 1 1 Tryd.underlying71 (by kernel_rfl) Tryd.underlying112
theorem to_err (fn s : ByteArray) (b c : Int) (hC : ∀ w, Calls Tryd.prog 89 #[.string s] w fun e w' => e = .returned (.string s) ∧ Below w.heap.size w w') (te : TypeId) (pe : Value) (w : World) (hv : w.cell? ⟨7, 0, none⟩ = some (.iface te pe)) :
    Calls Tryd.prog 97 #[.string fn, .string s, .int .i64 b, .int .i64 c, .iface 112 (.int .i64 1)] w fun e w' => (∃ t v, e = .returned (.iface t v)) ∧ Below w.heap.size w w' := by
  have h35 := range_err fn s hC te pe w hv
  have hq12 := eql12
  have hq11 := eql11
  clear hC hv
  go_enter Tryd.func97, Tryd.ntmps97
  go_wp2_with fail
  refine h35.mono ?_
  rintro e w2 ⟨⟨a, rfl⟩, hb⟩
  clear h35
  go_wp2_with fail
  go_ret
  exact ⟨⟨_, _, rfl⟩, hb⟩
theorem parse22 (b : Nat) (T : ByteArray) (p : Int × Int) (H27 : ∀ w, Calls Tryd.prog 98 #[.string T, .int .i64 b, .int .i64 64] w fun e w' => Told27 p e ∧ Below w.heap.size w w')
    (hC : ∀ w, Calls Tryd.prog 89 #[.string T] w fun e w' => e = .returned (.string T) ∧ Below w.heap.size w w') (te : TypeId) (pe : Value) (w : World) (hv : w.cell? ⟨7, 0, none⟩ = some (.iface te pe)) :
    Calls Tryd.prog 92 #[.string T, .int .i64 (b : Int), .int .i64 64] w fun e w' => Told22 p e ∧ Below w.heap.size w w' := by
  have h27 := H27 w
  clear H27
  go_enter Tryd.func92, Tryd.ntmps92
  go_wp2_with fail
  refine h27.mono ?_
  rintro e w2 ⟨ht, hb⟩
  clear h27
  cases ht with
  | ok h =>
    clear hC hv
    go_wp2_with fail
    go_ret2
    exact ⟨Told22.ok h, hb⟩
  | err h s =>
    have h28 := fun fn => to_err fn T (b : Int) 64 hC te pe w2 ((hb.cell (show 7 < w.heap.size from lt_of_cell hv)).trans hv)
    clear hC hv
    go_wp2_with fail
    refine (h28 _).mono ?_
    rintro e w3 ⟨⟨t, v, rfl⟩, hb2⟩
    clear h28
    go_wp2_with fail
    go_ret2
    exact ⟨Told22.err h _ _ _, hb.trans ⟨hb2.os, hb2.tape, hb2.output, hb2.size, fun k hk => hb2.block k (Nat.lt_of_lt_of_le hk hb.size)⟩⟩
end Go.Proofs.YtogenhnonjkanaaDoor.Rd
