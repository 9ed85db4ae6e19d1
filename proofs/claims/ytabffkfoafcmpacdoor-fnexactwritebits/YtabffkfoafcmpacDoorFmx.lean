import Derived.Test.YtabffkfoafcmpacDoorFmw
import Derived.Lib.ItoaMem
namespace Go.Proofs.YtabffkfoafcmpacDoor
open Go.ChangeShapes Go.WideShapes Go.ChangeAt Go.RowKit Go.Sort
set_option linter.unusedVariables false
theorem holds0 (w : World) (T : TypeId) (n : Nat) (h : n ≤ 24) : Holds (fun (b : UInt8) => Value.int .u8 (b.toNat : Int)) (w.alloc (.cells Lib.zeros24 T)) w.heap.size 0 (Array.replicate n 0) := by
  intro j hj
  have hj2 : j < n := by simpa using hj
  rw [Nat.zero_add, World.cell?_alloc_new]
  refine ⟨?_, World.frozen?_alloc_new _ _ _ _⟩
  rw [Lib.zeros24_at j (by omega)]
  simp [hj2]
set_option maxRecDepth 100000 in
set_option maxHeartbeats 2000000 in
theorem format_uint_10 (u : Nat) (h100 : 100 ≤ u) (hu : u < 18446744073709551616) (w : World) (htab : Lib.TabIs Tryd.prog w "internal/strconv.uint64pow10" .u64 Lib.pow10Tab) :
    Calls Tryd.prog 24 #[.int .u64 (u : Int), .int .i64 10] w fun e w' => e = .returned (.string ⟨(Lib.decDigits u).toArray⟩) ∧ ∃ k os, w' = grow (w.drewN k) os := by
  have hnd20 : Lib.nDigits u ≤ 20 := by have := Lib.numDigits_eq u (by omega) hu; split at this <;> omega
  have hal : Tryd.prog.arrayLen 46 = 24 := by simp [Program.arrayLen, Tryd.underlying46]
  have hsl1 : ∀ W, (Instr.sliceAt 46 (.pointer (some ⟨w.heap.size, 0, none⟩)) none (some (.int .i64 (Lib.nDigits u : Int))) none).run Tryd.prog W = .ok (.slice (some ⟨w.heap.size, 0, none⟩) (Lib.nDigits u) 24) W := fun W => by
    rw [run_sliceAt_array_h W 46 ⟨w.heap.size, 0, none⟩ (by simp [Program.arrayLen, Program.elem, Tryd.underlying46]) .i64 (Lib.nDigits u : Int) (by omega) (by rw [hal]; omega)]
    go_simp
  have hH0 := holds0 w 46 (Lib.nDigits u) (by omega)
  have hfmt := Tryd.internal_strconv_formatBase10 w.heap.size 0 24 u (Array.replicate (Lib.nDigits u) 0) (w.alloc (.cells Lib.zeros24 46)) hH0 (by rw [Array.size_replicate]; exact Lib.lt_pow_nDigits u) hu (by rw [Array.size_replicate]; omega)
  rw [Array.size_replicate] at hfmt
  have HH0 := Lib.hid hH0
  have h1 : ¬ (u : Int) < 100 := by omega
  have HU := Lib.hid hu
  clear hH0 hal hu
  go_enter Tryd.func24, Tryd.ntmps24
  go_wp2_with (go_at_call 30; refine (Tryd.internal_strconv_numDigits u (by omega) HU.out _ (Lib.tabIs_alloc htab _)).mono ?_; rintro e w' ⟨rfl, rfl⟩)
  refine hfmt.mono ?_
  rintro e w' ⟨rfl, k, v', dk, rfl, hF⟩
  have hcv : (convert 49 9 (.slice (some ⟨w.heap.size, 0, none⟩) (Lib.nDigits u) 24)).run Tryd.prog ((putRow (fun (b : UInt8) => Value.int .u8 (b.toNat : Int)) (w.alloc (.cells Lib.zeros24 46)) w.heap.size 0 dk).drewN k) = .ok (.string ⟨(Lib.decDigits u).toArray⟩) ((putRow (fun (b : UInt8) => Value.int .u8 (b.toNat : Int)) (w.alloc (.cells Lib.zeros24 46)) w.heap.size 0 dk).drewN k) := by
    have h := run_convert_bytes_back (P := Tryd.prog) ((putRow (fun (b : UInt8) => Value.int .u8 (b.toNat : Int)) (w.alloc (.cells Lib.zeros24 46)) w.heap.size 0 dk).drewN k) 49 9 5 ⟨w.heap.size, 0, none⟩ 24 (Lib.decDigits u) Tryd.underlying49 Tryd.underlying5 Tryd.underlying9 (fun j hj => by
      rw [Lib.row_is_numeral hF j hj, Lib.add_plain, World.cell?_drewN]
      exact cell?_putRow (fun (b : UInt8) => Value.int .u8 (b.toNat : Int)) _ w.heap.size 0 _ dk HH0.out (by rw [hF.size, Array.size_replicate]) j (by rw [hF.size]; rw [Lib.decDigits_length] at hj; exact hj))
    rw [Lib.decDigits_length] at h
    exact h
  have hk : ∃ os, (putRow (fun (b : UInt8) => Value.int .u8 (b.toNat : Int)) (w.alloc (.cells Lib.zeros24 46)) w.heap.size 0 dk).drewN k = grow (w.drewN k) os := by
    rw [alloc_eq_grow]
    obtain ⟨os', _, e⟩ := putRow_grow_new (fun (b : UInt8) => Value.int .u8 (b.toNat : Int)) w #[.cells Lib.zeros24 46] w.heap.size 0 dk (Nat.le_refl _)
    rw [e]
    exact ⟨os', rfl⟩
  have HK := Lib.hid hk
  clear hk hfmt htab hF
  go_wp2
  go_ret
  obtain ⟨os, eo⟩ := HK.out
  exact ⟨rfl, k, os, eo⟩
theorem format_uint (n : Int) (b : Nat) (hb : 2 ≤ b) (hb2 : b ≤ 36) (h0 : 0 ≤ n) (h1 : n ≤ 18446744073709551615) (w : World) (hT : Tab w)
    (htab : Lib.TabIs Tryd.prog w "internal/strconv.uint64pow10" .u64 Lib.pow10Tab) :
    Calls Tryd.prog 24 #[.int .u64 n, .int .i64 b] w fun e w' => e = .returned (.string ⟨(wrt b n.toNat).toArray⟩) ∧ Kept w w' := by
  by_cases hten : b = 10
  · subst hten
    obtain ⟨u, rfl⟩ := Int.eq_ofNat_of_zero_le h0
    rw [Int.toNat_natCast, ← dec_wrt]
    by_cases h100 : u < 100
    · have HC := Tryd.internal_strconv_small u h100
      have h2 : (u : Int) < 100 := by omega
      clear h1 htab hT
      generalize Lib.decDigits u = L at *
      show Calls Tryd.prog 24 #[.int .u64 (u : Int), .int .i64 10] w _
      go_enter Tryd.func24, Tryd.ntmps24
      go_wp2_with (go_at_call 29; refine (HC _).mono ?_; rintro e w' ⟨rfl, rfl⟩)
      go_ret
      exact ⟨rfl, Kept.refl _⟩
    · refine (format_uint_10 u (by omega) (by omega) w htab).mono ?_
      rintro e w' ⟨rfl, k, os, rfl⟩
      exact ⟨rfl, kept_grow w k os⟩
  · have hb10 : ((b : Int) == 10) = false := by simp; omega
    have hc := fmt_any n b hb hb2 hb10 h0 h1 w hT
    generalize wrt b n.toNat = L at *
    have HC : Hid (Calls Tryd.prog 32 #[.slice none 0 0, .int .u64 n, .int .i64 b, .bool false, .bool false] w fun e w' => e = .returned (.tuple #[.slice none 0 0, .string ⟨L.toArray⟩]) ∧ Grown w w') := hc
    clear hc hT htab
    go_enter Tryd.func24, Tryd.ntmps24
    go_wp2_with fail
    refine (show Calls Tryd.prog 32 #[.slice none 0 0, .int .u64 n, .int .i64 b, .bool false, .bool false] w fun e w' => e = .returned (.tuple #[.slice none 0 0, .string ⟨L.toArray⟩]) ∧ Grown w w' from HC).mono ?_
    rintro e w' ⟨rfl, hg⟩
    go_wp2_with fail
    go_ret
    exact ⟨rfl, hg.1⟩
theorem impl_bits (n : Int) (b : Nat) (hb : 2 ≤ b) (hb2 : b ≤ 36) (w : World) (hT : Tab w)
    (htab : Lib.TabIs Tryd.prog w "internal/strconv.uint64pow10" .u64 Lib.pow10Tab) :
    Calls Tryd.prog 9 #[.int .i64 n, .int .i64 b] w fun e w' => e = .returned (.string ⟨(wrt b (IntKind.u64.wrap n).toNat).toArray⟩) ∧ Kept w w' := by
  have h0 : 0 ≤ IntKind.u64.wrap n ∧ IntKind.u64.wrap n ≤ 18446744073709551615 := by rw [IntKind.wrap_u64]; omega
  have HC : Hid (Calls Tryd.prog 24 #[.int .u64 (IntKind.u64.wrap n), .int .i64 b] w fun e w' => e = .returned (.string ⟨(wrt b (IntKind.u64.wrap n).toNat).toArray⟩) ∧ Kept w w') := format_uint _ b hb hb2 h0.1 h0.2 w hT htab
  clear hT htab
  generalize wrt b (IntKind.u64.wrap n).toNat = L at *
  have HB := is_base (b : Int) true (by simp; omega)
  go_enter Tryd.func9, Tryd.ntmps9
  go_wp2_with fail
  refine (HB _).mono ?_
  rintro e w' ⟨rfl, rfl⟩
  clear HB h0
  go_wp2_with fail
  go_in
  go_wp2_with fail
  refine (show Calls Tryd.prog 24 #[.int .u64 (IntKind.u64.wrap n), .int .i64 b] w' fun e w' => e = .returned (.string ⟨L.toArray⟩) ∧ Kept _ w' from HC).mono ?_
  rintro e w2 ⟨rfl, hg⟩
  go_wp2_with fail
  go_ret
  exact ⟨rfl, hg⟩
theorem impl_bits_none (n b : Int) (hb : b < 2 ∨ 36 < b) (w : World) :
    Calls Tryd.prog 9 #[.int .i64 n, .int .i64 b] w fun e w' => e = .returned (.string ⟨#[]⟩) ∧ w' = w := by
  have HB := is_base b false (by simp; omega)
  go_enter Tryd.func9, Tryd.ntmps9
  go_wp2_with fail
  refine (HB _).mono ?_
  rintro e w' ⟨rfl, rfl⟩
  go_wp2_with fail
  go_ret
  exact ⟨rfl, rfl⟩
theorem law_bits (n b : Int) (w : World) (hT : Tab w)
    (htab : Lib.TabIs Tryd.prog w "internal/strconv.uint64pow10" .u64 Lib.pow10Tab) :
    Calls Tryd.prog 4 #[.int .i64 n, .int .i64 b] w fun e w' => e = .returned (.bool true) ∧ Kept w w' := by
  by_cases hb : b < 2 ∨ 36 < b
  · go_enter Tryd.func4, Tryd.ntmps4
    go_wp2_with fail
    refine (spec_bits_none n b hb _).mono ?_
    rintro e w1 ⟨rfl, rfl⟩
    go_wp2_with fail
    refine (impl_bits_none n b hb _).mono ?_
    rintro e w2 ⟨rfl, rfl⟩
    go_wp2_with fail
    go_ret
    exact ⟨rfl, Kept.refl _⟩
  · obtain ⟨B, rfl⟩ : ∃ B : Nat, b = (B : Int) := ⟨b.toNat, by omega⟩
    have HS := spec_bits n B (by omega) (by omega)
    have HC := impl_bits n B (by omega) (by omega) w hT htab
    generalize wrt B (IntKind.u64.wrap n).toNat = L at *
    go_enter Tryd.func4, Tryd.ntmps4
    go_wp2_with fail
    refine (HS _).mono ?_
    rintro e w1 ⟨rfl, rfl⟩
    go_wp2_with fail
    refine HC.mono ?_
    rintro e w2 ⟨rfl, hg⟩
    clear HC HS hT htab
    go_wp2_with fail
    go_ret
    exact ⟨rfl, hg⟩
end Go.Proofs.YtabffkfoafcmpacDoor
