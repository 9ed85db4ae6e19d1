import Derived.Test.YtogenhnonjkanaaDoorMTfv
import Derived.Test.YtogenhnonjkanaaDoorMTsh
import Derived.Lib.ItoaNum
import Derived.Below
namespace Go.Proofs.YtogenhnonjkanaaDoor.Fm
open Go.ChangeShapes Go.WideShapes Go.ChangeAt Go.RowKit
set_option linter.unusedVariables false
/-- nothing that was there has turned -/
def Kept (w w' : World) : Prop := w.keptBut w' (fun _ => False)
theorem Kept.refl (w : World) : Kept w w := World.keptBut_refl _ _
theorem kept_grow (w : World) (k : Nat) (os : Array Obj) : Kept w (Go.Sort.grow (w.drewN k) os) := by
  have h : Below w.heap.size w (Go.Sort.grow (w.drewN k) os) := ⟨rfl, rfl, rfl, by simp [Go.Sort.grow], fun j hj => by simp [Go.Sort.grow, Array.getElem?_append_left hj]⟩
  exact h.frame _
theorem d10 : ∀ i : Fin 10, UInt8.ofNat (48 + i.val) = dg i.val := by decide
theorem dec_wrt (u : Nat) : Lib.decDigits u = wrt 10 u := by
  induction u using Nat.strongRecOn with
  | _ u ih =>
    rw [Lib.decDigits]
    by_cases h : u < 10
    · rw [dif_pos h, wrt_last 10 u (by omega) h, d10 ⟨u, h⟩]
    · rw [dif_neg h, wrt_step 10 u (by omega) (by omega), ih (u / 10) (by omega), d10 ⟨u % 10, by omega⟩]
theorem itoa_wri (n : Int) : Lib.itoa n = wri 10 n := by
  unfold Lib.itoa wri
  by_cases h : n < 0
  · rw [if_pos h, if_pos h, dec_wrt]
    congr 2
    omega
  · rw [if_neg h, if_neg h, dec_wrt]
theorem base_facts : ∀ b : Fin 37, 2 ≤ b.val → (bits .and .i64 (b.val : Int) ((b.val : Int) - 1) == 0) = false ∨ (2 ^ b.val.log2 = b.val ∧ (bits .and .i64 (b.val : Int) ((b.val : Int) - 1) == 0) = true ∧ Lib.ctz 64 b.val = b.val.log2 ∧ b.val.log2 < 64) := by decide +kernel
/-- internal/strconv.formatBits, at every base but ten -/
theorem fmt_any (n : Int) (b : Nat) (hb : 2 ≤ b) (hb2 : b ≤ 36) (hb10 : ((b : Int) == 10) = false) (hn : 0 ≤ n) (hn2 : n ≤ 18446744073709551615) (w : World) (hT : Tab w) :
    Calls Tryd.prog 73 #[.slice none 0 0, .int .u64 n, .int .i64 b, .bool false, .bool false] w fun e w' => e = .returned (.tuple #[.slice none 0 0, .string ⟨(wrt b n.toNat).toArray⟩]) ∧ Grown w w' := by
  rcases base_facts ⟨b, by omega⟩ hb with h | ⟨h1, h2, h3, h4⟩
  · exact fmt_gen n b hb hb2 hb10 h hn hn2 w
  · refine fmt_pow n b hb hb2 hb10 b.log2 h4 h1 (fun w hw => ?_) h2 hn hn2 w hT
    have := Any7.bits_TrailingZeros Tryd.lays727 b (by omega) w (fun _ => hw.at_)
    have h3' : Lib.ctz 64 b = b.log2 := h3
    rw [h3'] at this
    exact this
theorem format_int (n : Int) (b : Nat) (hb : 2 ≤ b) (hb2 : b ≤ 36) (h10 : b = 10) (h0 : -9223372036854775808 ≤ n) (h1 : n ≤ 9223372036854775807) (w : World)
    (htab : Lib.TabIs Tryd.prog w "internal/strconv.uint64pow10" .u64 Lib.pow10Tab) :
    Calls Tryd.prog 61 #[.int .i64 n, .int .i64 b] w fun e w' => e = .returned (.string ⟨(wri b n).toArray⟩) ∧ Kept w w' := by
  subst h10
  have h := Tryd.internal_strconv_FormatInt_10 n h0 h1 w htab
  rw [itoa_wri] at h
  refine h.mono ?_
  rintro e w' ⟨rfl, k, os, rfl⟩
  exact ⟨rfl, kept_grow w k os⟩
set_option maxRecDepth 100000 in
set_option maxHeartbeats 4000000 in
theorem is_base (b : Int) (z : Bool) (h : (decide (2 ≤ b) && decide (b ≤ 36)) = z) (w : World) :
    Calls Tryd.prog 51 #[.int .i64 b] w fun e w' => e = .returned (.bool z) ∧ w' = w := by
  by_cases h2 : 2 ≤ b
  · by_cases h3 : b ≤ 36
    · have e : z = true := by rw [← h]; simp [h2, h3]
      subst e
      have h4 : decide (b ≤ 36) = true := by simpa using h3
      clear h
      go_enter Tryd.func51, Tryd.ntmps51
      go_wp2
      go_ret
      exact ⟨rfl, rfl⟩
    · have e : z = false := by rw [← h]; simp [h3]
      subst e
      have h4 : decide (b ≤ 36) = false := by simpa using h3
      clear h
      go_enter Tryd.func51, Tryd.ntmps51
      go_wp2
      go_ret
      exact ⟨rfl, rfl⟩
  · have e : z = false := by rw [← h]; simp [h2]
    subst e
    clear h
    go_enter Tryd.func51, Tryd.ntmps51
    go_wp2
    go_ret
    exact ⟨rfl, rfl⟩
set_option maxRecDepth 100000 in
set_option maxHeartbeats 4000000 in
theorem impl_int (n : Int) (b : Nat) (hb : 2 ≤ b) (hb2 : b ≤ 36) (h10 : b = 10) (h0 : -9223372036854775808 ≤ n) (h1 : n ≤ 9223372036854775807) (w : World)
    (htab : Lib.TabIs Tryd.prog w "internal/strconv.uint64pow10" .u64 Lib.pow10Tab) :
    Calls Tryd.prog 28 #[.int .i64 n, .int .i64 b] w fun e w' => e = .returned (.string ⟨(wri b n).toArray⟩) ∧ Kept w w' := by
  have HC : Hid (Calls Tryd.prog 61 #[.int .i64 n, .int .i64 b] w fun e w' => e = .returned (.string ⟨(wri b n).toArray⟩) ∧ Kept w w') := format_int n b hb hb2 h10 h0 h1 w htab
  clear htab h10
  generalize wri b n = L at *
  have HB := is_base (b : Int) true (by simp; omega)
  go_enter Tryd.func28, Tryd.ntmps28
  go_wp2_with fail
  refine (HB _).mono ?_
  rintro e w' ⟨rfl, rfl⟩
  clear HB h0 h1
  go_wp2_with fail
  go_in
  go_wp2_with fail
  refine (show Calls Tryd.prog 61 #[.int .i64 n, .int .i64 b] w' fun e w' => e = .returned (.string ⟨L.toArray⟩) ∧ Kept _ w' from HC).mono ?_
  rintro e w2 ⟨rfl, hg⟩
  go_wp2_with fail
  go_ret
  exact ⟨rfl, hg⟩
set_option maxRecDepth 100000 in
set_option maxHeartbeats 4000000 in
theorem format_uint (n : Int) (b : Nat) (hb : 2 ≤ b) (hb2 : b ≤ 36) (hb10 : ((b : Int) == 10) = false) (h0 : 0 ≤ n) (h1 : n ≤ 18446744073709551615) (w : World) (hT : Tab w) :
    Calls Tryd.prog 60 #[.int .u64 n, .int .i64 b] w fun e w' => e = .returned (.string ⟨(wrt b n.toNat).toArray⟩) ∧ Kept w w' := by
  have hc := fmt_any n b hb hb2 hb10 h0 h1 w hT
  generalize wrt b n.toNat = L at *
  have HC : Hid (Calls Tryd.prog 73 #[.slice none 0 0, .int .u64 n, .int .i64 b, .bool false, .bool false] w fun e w' => e = .returned (.tuple #[.slice none 0 0, .string ⟨L.toArray⟩]) ∧ Grown w w') := hc
  clear hc hT
  go_enter Tryd.func60, Tryd.ntmps60
  go_wp2_with fail
  refine (show Calls Tryd.prog 73 #[.slice none 0 0, .int .u64 n, .int .i64 b, .bool false, .bool false] w fun e w' => e = .returned (.tuple #[.slice none 0 0, .string ⟨L.toArray⟩]) ∧ Grown w w' from HC).mono ?_
  rintro e w' ⟨rfl, hg⟩
  go_wp2_with fail
  go_ret
  exact ⟨rfl, hg.1⟩
set_option maxRecDepth 100000 in
set_option maxHeartbeats 4000000 in
theorem impl_bits (n : Int) (b : Nat) (hb : 2 ≤ b) (hb2 : b ≤ 36) (hb10 : ((b : Int) == 10) = false) (w : World) (hT : Tab w) :
    Calls Tryd.prog 27 #[.int .i64 n, .int .i64 b] w fun e w' => e = .returned (.string ⟨(wrt b (IntKind.u64.wrap n).toNat).toArray⟩) ∧ Kept w w' := by
  have h0 : 0 ≤ IntKind.u64.wrap n ∧ IntKind.u64.wrap n ≤ 18446744073709551615 := by rw [IntKind.wrap_u64]; omega
  have HC : Hid (Calls Tryd.prog 60 #[.int .u64 (IntKind.u64.wrap n), .int .i64 b] w fun e w' => e = .returned (.string ⟨(wrt b (IntKind.u64.wrap n).toNat).toArray⟩) ∧ Kept w w') := format_uint _ b hb hb2 hb10 h0.1 h0.2 w hT
  clear hT hb10
  generalize wrt b (IntKind.u64.wrap n).toNat = L at *
  have HB := is_base (b : Int) true (by simp; omega)
  go_enter Tryd.func27, Tryd.ntmps27
  go_wp2_with fail
  refine (HB _).mono ?_
  rintro e w' ⟨rfl, rfl⟩
  clear HB h0
  go_wp2_with fail
  go_in
  go_wp2_with fail
  refine (show Calls Tryd.prog 60 #[.int .u64 (IntKind.u64.wrap n), .int .i64 b] w' fun e w' => e = .returned (.string ⟨L.toArray⟩) ∧ Kept _ w' from HC).mono ?_
  rintro e w2 ⟨rfl, hg⟩
  go_wp2_with fail
  go_ret
  exact ⟨rfl, hg⟩
end Go.Proofs.YtogenhnonjkanaaDoor.Fm
