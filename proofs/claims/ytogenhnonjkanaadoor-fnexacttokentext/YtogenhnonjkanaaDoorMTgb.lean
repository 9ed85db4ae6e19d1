import Derived.Test.YtogenhnonjkanaaDoorMTga
namespace Go.Proofs.YtogenhnonjkanaaDoor
open Go.ChangeShapes Go.WideShapes Go.ChangeAt Go.RowKit
set_option linter.unusedVariables false
theorem hexix : ∀ i : Fin 16, (⟨#[48, 49, 50, 51, 52, 53, 54, 55, 56, 57, 97, 98, 99, 100, 101, 102]⟩ : ByteArray).data.toList[i.val]? = some (Fm.dg i.val) := by decide
theorem hexdg : ∀ (i : Fin 16) (w : World), (Result.ok (Value.int .u8 (((⟨#[48, 49, 50, 51, 52, 53, 54, 55, 56, 57, 97, 98, 99, 100, 101, 102]⟩ : ByteArray).data.toList.getD i.val 0).toNat : Int)) w : Result Value) = .ok (.int .u8 ((Fm.dg i.val).toNat : Int)) w := by
  intro i w
  have : ∀ i : Fin 16, (⟨#[48, 49, 50, 51, 52, 53, 54, 55, 56, 57, 97, 98, 99, 100, 101, 102]⟩ : ByteArray).data.toList.getD i.val 0 = Fm.dg i.val := by decide
  rw [this i]
theorem hexat (r : Nat) (hr : r < 16) (w : World) : (Instr.index 9 (.string ⟨#[48, 49, 50, 51, 52, 53, 54, 55, 56, 57, 97, 98, 99, 100, 101, 102]⟩) (.int .u64 (r : Int))).run Tryd.prog w = .ok (.int .u8 ((Fm.dg r).toNat : Int)) w := by
  have hs : ((⟨#[48, 49, 50, 51, 52, 53, 54, 55, 56, 57, 97, 98, 99, 100, 101, 102]⟩ : ByteArray)).size = 16 := by decide
  rw [run_index_string w 9 ⟨#[48, 49, 50, 51, 52, 53, 54, 55, 56, 57, 97, 98, 99, 100, 101, 102]⟩ .u64 _ Tryd.underlying9, dif_pos ⟨by omega, by rw [hs]; omega⟩]
  have e : ((r : Int)).toNat = r := by omega
  simp only [e]
  rw [Lib.getD_at _ r (by rw [hs]; exact hr)]
  exact hexdg ⟨r, hr⟩ w
set_option maxRecDepth 100000 in
set_option maxHeartbeats 1000000 in
theorem spec_neg (n : Int) (h0 : n < 0) (U : Nat) (hU : IntKind.u64.wrap n = (U : Int)) (hU1 : U < 18446744073709551616) (hUB : 9223372036854775808 ≤ U) (w : World) :
    Calls Tryd.prog 21 #[.int .i64 n] w fun e w' => e = .returned (.string (⟨#[48, 120]⟩ ++ ⟨(Fm.wr 16 U).toArray⟩)) ∧ Below w.heap.size w w' := by
  have hn : ¬ (0 : Int) ≤ n := by omega
  have HU : Hid (U < 18446744073709551616) := hU1
  have HPOS : ∀ m, m ≤ 15 → U / 16 ^ m ≠ 0 := fun m hm hz => by
    have h1 : 16 ^ m ≤ 16 ^ 15 := Nat.pow_le_pow_right (by decide) hm
    have h2 : (16 : Nat) ^ 15 = 1152921504606846976 := by decide
    have h3 := Nat.lt_of_div_eq_zero (Nat.pow_pos (by decide)) hz
    omega
  clear h0 hU1 hUB
  go_enter Tryd.func21, Tryd.ntmps21
  go_upto_block 0 with fail
  go_wp2_with fail
  go_loopw [4, 5] (fun s4 s5 wr => ∃ m : Nat, m ≤ 16 ∧ s5 = .int .i64 (4 * (m : Int) - 4) ∧ s4 = .string (⟨#[48, 120]⟩ ++ ⟨(Fm.wr 16 (U / 16 ^ m)).toArray⟩) ∧ Hid (Below w.heap.size w wr)) (fun _ s5 _ => (intOf s5 + 4).toNat)
  case atStart => exact ⟨16, Nat.le_refl _, rfl, by rw [Nat.div_eq_of_lt (show U < 16 ^ 16 from HU), Fm.wr_zero]; rfl, Below.refl _ _⟩
  case round =>
    obtain ⟨m, hm, hs5, rfl, HB⟩ := hrel
    cases m with
    | zero =>
      have e5 : 4 * ((0 : Nat) : Int) - 4 = -4 := rfl
      rw [e5] at hs5
      subst hs5
      rw [Nat.pow_zero, Nat.div_one]
      go_wp2_with fail
      go_ret
      exact ⟨rfl, HB⟩
    | succ m =>
      have e5 : 4 * ((m + 1 : Nat) : Int) - 4 = 4 * (m : Int) := by omega
      rw [e5] at hs5
      subst hs5
      have hk0 : (0 : Int) ≤ 4 * (m : Int) := by omega
      have hk1 : 4 * (m : Int) ≤ 60 := by omega
      obtain ⟨r, hr⟩ : ∃ r, U / 16 ^ m % 16 = r := ⟨_, rfl⟩
      have hr16 : r < 16 := by omega
      have hdig : bits BinOp.and IntKind.u64 ((U : Int) / 2 ^ (4 * (m : Int)).toNat) 15 = (r : Int) := by
        have e1 : (4 * (m : Int)).toNat = 4 * m := by omega
        have e2 : (U : Int) / 2 ^ (4 * m) = ((U / 16 ^ m : Nat) : Int) := by
          have e3 : (2 : Nat) ^ (4 * m) = 16 ^ m := by rw [Nat.pow_mul]
          have e4 : (2 : Int) ^ (4 * m) = ((16 ^ m : Nat) : Int) := by rw [← e3]; simp
          rw [e4]; simp
        rw [e1, e2]
        have hle : U / 16 ^ m ≤ U := Nat.div_le_self _ _
        have hU2 := (show U < 18446744073709551616 from HU)
        have h5 : U / 16 ^ m ≤ 18446744073709551615 := by omega
        exact Fm.and_pow ((U / 16 ^ m : Nat) : Int) 16 4 r (by decide) (by decide) (by decide) (Int.natCast_nonneg _) (Int.ofNat_le.2 h5) (by rw [Int.toNat_natCast]; exact hr)
      have hrI : (r : Int) < 16 := by omega
      have hix := hexat r hr16
      have hcv := conv_one wr (Fm.dg r)
      have hwr : Fm.wr 16 (U / 16 ^ m) = Fm.wr 16 (U / 16 ^ (m + 1)) ++ [Fm.dg r] := by
        by_cases hz : U / 16 ^ m = 0
        · exact absurd hz (HPOS m (by omega))
        · rw [Fm.wr_pos 16 _ (by decide) hz, hr, Nat.div_div_eq_div_mul, Nat.pow_succ]
      have HO2 : Hid ((⟨#[48, 120]⟩ ++ ⟨(Fm.wr 16 (U / 16 ^ (m + 1))).toArray⟩ : ByteArray) ++ ⟨#[Fm.dg r]⟩ = ⟨#[48, 120]⟩ ++ ⟨(Fm.wr 16 (U / 16 ^ m)).toArray⟩) := by
        show (_ : ByteArray) = _
        rw [hwr]
        apply ByteArray.ext
        simp
      have hlen : (Fm.wr 16 (U / 16 ^ (m + 1))).length ≤ 64 := Fm.wr_len 16 (by decide) 64 _ (by
        have hle : U / 16 ^ (m + 1) ≤ U := Nat.div_le_self _ _
        have hU2 := (show U < 18446744073709551616 from HU)
        omega)
      have hsz : ¬ 9223372036854775807 < (⟨#[48, 120]⟩ ++ ⟨(Fm.wr 16 (U / 16 ^ (m + 1))).toArray⟩ : ByteArray).size + 1 := by
        rw [ByteArray.size_append]
        show ¬ 9223372036854775807 < 2 + (Fm.wr 16 (U / 16 ^ (m + 1))).toArray.size + 1
        simp
        omega
      have HB1 : Hid (Below w.heap.size w (wr.alloc (.cells #[.int .u8 ((Fm.dg r).toNat : Int)] 5))) := HB.alloc HB.size _
      clear hwr hlen hr HPOS HB
      generalize (⟨#[48, 120]⟩ ++ ⟨(Fm.wr 16 (U / 16 ^ (m + 1))).toArray⟩ : ByteArray) = O1 at *
      generalize hdd : Fm.dg r = dd at *
      generalize hk : 4 * (m : Int) = k at *
      go_wp2_with fail
      go_roundw
      case rel => exact ⟨m, by omega, by rw [hk], by rw [← (show O1 ++ ⟨#[dd]⟩ = (⟨#[48, 120]⟩ ++ ⟨(Fm.wr 16 (U / 16 ^ m)).toArray⟩ : ByteArray) from HO2)], HB1⟩
      case measure => simp [intOf]; omega
end Go.Proofs.YtogenhnonjkanaaDoor
