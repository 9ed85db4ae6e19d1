import Derived.Test.YtabffkfoafcmpacDoorRows
import Derived.WalkKit
import Derived.ProofKit
import Derived.OpenShut
import Derived.Handy
import Derived.Test.YtabffkfoafcmpacDoorDig
namespace Go.Proofs.YtabffkfoafcmpacDoor
open Go.ChangeShapes Go.WideShapes Go.ChangeAt Go.RowKit
set_option linter.unusedVariables false
theorem ext36 : ∀ i : Fin 36, ((⟨#[48, 49, 50, 51, 52, 53, 54, 55, 56, 57, 97, 98, 99, 100, 101, 102, 103, 104, 105, 106, 107, 108, 109, 110, 111, 112, 113, 114, 115, 116, 117, 118, 119, 120, 121, 122]⟩ : ByteArray).extract i.val (i.val + 1)).data.toList = [dg i.val] := by decide +kernel
theorem sl (r : Nat) (hr : r < 36) (w : World) : (Instr.slice 9 (.string ⟨#[48, 49, 50, 51, 52, 53, 54, 55, 56, 57, 97, 98, 99, 100, 101, 102, 103, 104, 105, 106, 107, 108, 109, 110, 111, 112, 113, 114, 115, 116, 117, 118, 119, 120, 121, 122]⟩) (some (.int .u64 (r : Int))) (some (.int .u64 ((r : Int) + 1))) none).run Tryd.prog w = .ok (.string ⟨[dg r].toArray⟩) w := by
  have h := run_slice_string (P := Tryd.prog) w 9 ⟨#[48, 49, 50, 51, 52, 53, 54, 55, 56, 57, 97, 98, 99, 100, 101, 102, 103, 104, 105, 106, 107, 108, 109, 110, 111, 112, 113, 114, 115, 116, 117, 118, 119, 120, 121, 122]⟩ .u64 .u64 (r : Int) ((r : Int) + 1) Tryd.underlying9 (by omega) (by omega) (by
    have : ((⟨#[48, 49, 50, 51, 52, 53, 54, 55, 56, 57, 97, 98, 99, 100, 101, 102, 103, 104, 105, 106, 107, 108, 109, 110, 111, 112, 113, 114, 115, 116, 117, 118, 119, 120, 121, 122]⟩ : ByteArray)).size = 36 := by decide
    rw [this]; omega)
  rw [h]
  have e1 : (r : Int).toNat = r := by omega
  have e2 : ((r : Int) + 1).toNat = r + 1 := by omega
  rw [e1, e2]
  have e := ext36 ⟨r, hr⟩
  congr 2
  generalize ((⟨#[48, 49, 50, 51, 52, 53, 54, 55, 56, 57, 97, 98, 99, 100, 101, 102, 103, 104, 105, 106, 107, 108, 109, 110, 111, 112, 113, 114, 115, 116, 117, 118, 119, 120, 121, 122]⟩ : ByteArray).extract r (r + 1)) = B at e
  cases B with
  | mk d => cases d with | mk l => simp at e; rw [e]
theorem bapp (a : UInt8) (S : List UInt8) : (⟨#[a]⟩ : ByteArray) ++ ⟨S.toArray⟩ = ⟨(a :: S).toArray⟩ := by
  apply ByteArray.ext; simp
set_option maxRecDepth 100000 in
set_option maxHeartbeats 1000000 in
theorem spec_wr (n : Int) (b : Nat) (hb : 2 ≤ b) (hb2 : b ≤ 36) (hn : 0 < n) (hn2 : n ≤ 18446744073709551615) (w : World) :
    Calls Tryd.prog 13 #[.int .u64 n, .int .i64 b] w fun e w' => e = .returned (.string ⟨(wr b n.toNat).toArray⟩) ∧ w' = w := by
  go_enter Tryd.func13, Tryd.ntmps13
  go_wp2
  go_loop [0, 6] (fun a o => ∃ (u : Int) (S : List UInt8), Hid (wr b n.toNat = wr b u.toNat ++ S) ∧ 0 ≤ u ∧ u ≤ 18446744073709551615 ∧ a = .int .u64 u ∧ o = .string ⟨S.toArray⟩) (fun a _ => (intOf a).toNat)
  case atStart => exact ⟨n, [], (by simp : wr b n.toNat = wr b n.toNat ++ []), by omega, hn2, rfl, rfl⟩
  case round =>
    obtain ⟨u, S, HS, hu, hu2, rfl, rfl⟩ := hrel
    by_cases h0 : 0 < u
    · obtain ⟨r, hr⟩ : ∃ r : Nat, u % (b : Int) = (r : Int) := ⟨(u % (b : Int)).toNat, by have := Int.emod_nonneg u (b := (b : Int)) (by omega); omega⟩
      have hr1 : r < b := by have := Int.emod_lt_of_pos u (b := (b : Int)) (by omega); omega
      have hsl := sl r (by omega)
      obtain ⟨q, hq⟩ : ∃ q : Nat, u / (b : Int) = (q : Int) := ⟨(u / (b : Int)).toNat, by have := Int.ediv_nonneg hu (b := (b : Int)) (by omega); omega⟩
      have hq2 : (q : Int) < u := by rw [← hq]; exact Int.ediv_lt_self_of_pos_of_ne_one (by omega) (by omega)
      have HQ : Hid (wr b n.toNat = wr b q ++ (dg r :: S)) := by
        show wr b n.toNat = _
        have h1 := (show wr b n.toNat = wr b u.toNat ++ S from HS)
        have e1 : u.toNat / b = q := by
          have h3 : ((u.toNat / b : Nat) : Int) = u / b := by rw [Int.natCast_ediv, Int.toNat_of_nonneg hu]
          omega
        have e2 : u.toNat % b = r := by
          have h3 : ((u.toNat % b : Nat) : Int) = u % b := by rw [Int.natCast_emod, Int.toNat_of_nonneg hu]
          omega
        rw [h1, wr_pos b u.toNat hb (by omega), e1, e2]
        simp
      have hS : S.length ≤ 64 := by
        have h1 := (show wr b n.toNat = wr b u.toNat ++ S from HS)
        have h2 := wr_len b hb 64 n.toNat (by omega)
        rw [h1, List.length_append] at h2
        omega
      go_wp2
      refine ⟨⟨(q : Int), dg r :: S, ?_, by omega, by omega, by rw [hq], ?_⟩, ?_⟩
      · rw [Int.toNat_natCast]; exact HQ
      · rw [bapp (dg r) S]
      · simp [intOf, hq]; omega
    · have HE : Hid (wr b n.toNat = S) := by
        show wr b n.toNat = S
        have h1 := (show wr b n.toNat = wr b u.toNat ++ S from HS)
        have e : u.toNat = 0 := by omega
        rw [e, wr_zero] at h1
        simpa using h1
      go_wp2
      go_ret
      refine ⟨?_, rfl⟩
      rw [show wr b n.toNat = S from HE]
      rfl
theorem spec_wrt (n : Int) (b : Nat) (hb : 2 ≤ b) (hb2 : b ≤ 36) (hn : 0 ≤ n) (hn2 : n ≤ 18446744073709551615) (w : World) :
    Calls Tryd.prog 13 #[.int .u64 n, .int .i64 b] w fun e w' => e = .returned (.string ⟨(wrt b n.toNat).toArray⟩) ∧ w' = w := by
  by_cases h0 : n = 0
  · subst h0
    have e : wrt b (0 : Int).toNat = [48] := rfl
    rw [e]
    go_enter Tryd.func13, Tryd.ntmps13
    go_wp2
    go_ret
    exact ⟨rfl, rfl⟩
  · have e : wrt b n.toNat = wr b n.toNat := by unfold wrt; rw [if_neg (by omega)]
    rw [e]
    exact spec_wr n b hb hb2 (by omega) hn2 w
/-- what a number is written as, with its sign -/
def wri (b : Nat) (n : Int) : List UInt8 := if n < 0 then 45 :: wrt b (-n).toNat else wrt b n.toNat
theorem wrt_len (b n : Nat) (hb : 2 ≤ b) (h : n < 2 ^ 64) : (wrt b n).length ≤ 64 := by
  unfold wrt
  split
  · simp
  · exact wr_len b hb 64 n h
set_option maxHeartbeats 1000000 in
theorem spec_int (n : Int) (b : Nat) (hb : 2 ≤ b) (hb2 : b ≤ 36) (h0 : -9223372036854775808 ≤ n) (h1 : n ≤ 9223372036854775807) (w : World) :
    Calls Tryd.prog 6 #[.int .i64 n, .int .i64 b] w fun e w' => e = .returned (.string ⟨(wri b n).toArray⟩) ∧ w' = w := by
  by_cases hneg : n < 0
  · have hlen := wrt_len b (-n).toNat hb (by omega)
    have e : wri b n = 45 :: wrt b (-n).toNat := by unfold wri; rw [if_pos hneg]
    have hw : IntKind.u64.wrap (-IntKind.u64.wrap n) = -n := by rw [IntKind.wrap_u64, IntKind.wrap_u64]; omega
    rw [e]
    clear e
    have hc := fun w => spec_wrt (-n) b hb hb2 (by omega) (by omega) w
    generalize wrt b (-n).toNat = S at *
    go_enter Tryd.func6, Tryd.ntmps6
    go_wp2_with fail
    refine (hc _).mono ?_
    rintro e w' ⟨rfl, rfl⟩
    clear hc
    go_wp2_with fail
    go_ret
    refine ⟨?_, rfl⟩
    rw [← bapp]
    rfl
  · have hlen := wrt_len b n.toNat hb (by omega)
    have e : wri b n = wrt b n.toNat := by unfold wri; rw [if_neg hneg]
    rw [e]
    clear e
    have hc := fun w => spec_wrt n b hb hb2 (by omega) (by omega) w
    generalize wrt b n.toNat = S at *
    go_enter Tryd.func6, Tryd.ntmps6
    go_wp2_with fail
    refine (hc _).mono ?_
    rintro e w' ⟨rfl, rfl⟩
    clear hc
    go_wp2_with fail
    go_ret
    exact ⟨rfl, rfl⟩
theorem spec_int_none (n b : Int) (hb : b < 2 ∨ 36 < b) (w : World) :
    Calls Tryd.prog 6 #[.int .i64 n, .int .i64 b] w fun e w' => e = .returned (.string ⟨#[]⟩) ∧ w' = w := by
  rcases hb with hb | hb
  · go_enter Tryd.func6, Tryd.ntmps6
    go_wp2
    go_ret
    exact ⟨rfl, rfl⟩
  · have hb3 : ¬ b < 2 := by omega
    go_enter Tryd.func6, Tryd.ntmps6
    go_wp2
    go_ret
    exact ⟨rfl, rfl⟩
theorem spec_bits_none (n b : Int) (hb : b < 2 ∨ 36 < b) (w : World) :
    Calls Tryd.prog 8 #[.int .i64 n, .int .i64 b] w fun e w' => e = .returned (.string ⟨#[]⟩) ∧ w' = w := by
  rcases hb with hb | hb
  · go_enter Tryd.func8, Tryd.ntmps8
    go_wp2
    go_ret
    exact ⟨rfl, rfl⟩
  · have hb3 : ¬ b < 2 := by omega
    go_enter Tryd.func8, Tryd.ntmps8
    go_wp2
    go_ret
    exact ⟨rfl, rfl⟩
theorem spec_bits (n : Int) (b : Nat) (hb : 2 ≤ b) (hb2 : b ≤ 36) (w : World) :
    Calls Tryd.prog 8 #[.int .i64 n, .int .i64 b] w fun e w' => e = .returned (.string ⟨(wrt b (IntKind.u64.wrap n).toNat).toArray⟩) ∧ w' = w := by
  have h0 : 0 ≤ IntKind.u64.wrap n ∧ IntKind.u64.wrap n ≤ 18446744073709551615 := by rw [IntKind.wrap_u64]; omega
  have hc := fun w => spec_wrt (IntKind.u64.wrap n) b hb hb2 h0.1 h0.2 w
  generalize wrt b (IntKind.u64.wrap n).toNat = S at *
  go_enter Tryd.func8, Tryd.ntmps8
  go_wp2_with fail
  refine (hc _).mono ?_
  rintro e w' ⟨rfl, rfl⟩
  clear hc
  go_wp2_with fail
  go_ret
  exact ⟨rfl, rfl⟩
end Go.Proofs.YtabffkfoafcmpacDoor
