import Derived.Test.YtogenhnonjkanaaDoorMTfu
namespace Go.Proofs.YtogenhnonjkanaaDoor.Fm
open Go.ChangeShapes Go.WideShapes Go.ChangeAt Go.RowKit
set_option linter.unusedVariables false
theorem lt_of_cell {w : World} {b off : Nat} {v : Value} (h : w.cell? ⟨b, off, none⟩ = some v) : b < w.heap.size := by
  refine Nat.lt_of_not_le fun g => ?_
  have e : w.heap[b]? = none := Array.getElem?_eq_none_iff.2 g
  simp [World.cell?, e] at h
structure Tab (w : World) : Prop where
  lt : 5 < w.heap.size
  at_ : TabAt 5 Lib.deBruijn64tab w
theorem Tab.grown {a b : World} (h : Tab a) (g : Grown a b) : Tab b := by
  refine ⟨Nat.lt_of_lt_of_le h.lt g.2.2, fun j hj => ?_⟩
  rw [World.keptBut.cell g.1 h.lt (fun f => f)]
  exact h.at_ j hj
theorem and_pow (u : Int) (b t r : Nat) (hbt : 2 ^ t = b) (hb : 2 ≤ b) (hb2 : b ≤ 36) (hu : 0 ≤ u) (hu2 : u ≤ 18446744073709551615) (hr : u.toNat % b = r) : bits .and .u64 u ((b : Int) - 1) = (r : Int) := by
  obtain ⟨U, rfl⟩ := Int.eq_ofNat_of_zero_le hu
  rw [Int.toNat_natCast] at hr
  have e : ((b : Int) - 1) = ((b - 1 : Nat) : Int) := by omega
  rw [e, Go.u64_and_nat U (b - 1) (by omega) (by omega), ← hbt, Nat.and_two_pow_sub_one_eq_mod, hbt, hr]
set_option maxRecDepth 100000 in
set_option maxHeartbeats 2000000 in
theorem fmt_pow (n : Int) (b : Nat) (hb : 2 ≤ b) (hb2 : b ≤ 36) (hb10 : ((b : Int) == 10) = false) (t : Nat) (ht : t < 64) (hbt : 2 ^ t = b) (h42 : ∀ w, Tab w → Calls Tryd.prog 87 #[.int .u64 (b : Int)] w fun e w' => e = .returned (.int .i64 (t : Int)) ∧ w' = w) (hp : (bits .and .i64 (b : Int) ((b : Int) - 1) == 0) = true) (hn : 0 ≤ n) (hn2 : n ≤ 18446744073709551615) (w : World) (hT : Tab w) :
    Calls Tryd.prog 73 #[.slice none 0 0, .int .u64 n, .int .i64 b, .bool false, .bool false] w fun e w' => e = .returned (.tuple #[.slice none 0 0, .string ⟨(wrt b n.toNat).toArray⟩]) ∧ Grown w w' := by
  have h41 := fun w => pow2_no b true hp hb hb2 w
  have hv := zv63
  clear hp
  have H42 : Hid (∀ w, Tab w → Calls Tryd.prog 87 #[.int .u64 (b : Int)] w fun e w' => e = .returned (.int .i64 (t : Int)) ∧ w' = w) := h42
  have HB : Hid (2 ^ t = b) := hbt
  clear h42 hbt
  go_enter Tryd.func73, Tryd.ntmps73
  go_wp2_with (first
    | (go_at_call 86; refine (h41 _).mono ?_; rintro e w' ⟨rfl, rfl⟩)
    | (go_at_call 87; refine ((show ∀ w, Tab w → Calls Tryd.prog 87 #[.int .u64 (b : Int)] w fun e w' => e = .returned (.int .i64 (t : Int)) ∧ w' = w from H42) _ (hT.grown (Grown.alloc (Grown.refl _) _ _))).mono ?_; rintro e w' ⟨rfl, rfl⟩))
  clear h41 hv
  go_loopw [13, 1] (fun vi vu wr => ∃ (u : Int) (i : Nat) (S : List UInt8), Hid (At b n.toNat w wr u.toNat i S) ∧ 0 ≤ u ∧ u ≤ 18446744073709551615 ∧ 2 ≤ i ∧ i ≤ 65 ∧ vi = .int .i64 i ∧ vu = .int .u64 u) (fun _ vu _ => (intOf vu).toNat)
  case atStart => exact ⟨n, 65, [], At.start b n.toNat hb w, hn, hn2, by omega, by omega, rfl, rfl⟩
  case round =>
    obtain ⟨u, i, S, HA, hu, hu2, hi, hi2, rfl, rfl⟩ := hrel
    obtain ⟨k, rfl⟩ : ∃ k, i = k + 1 := ⟨i - 1, by omega⟩
    obtain ⟨⟨z, hc⟩, hf, hk⟩ := (show At b n.toNat w wr u.toNat (k + 1) S from HA).cellk
    obtain ⟨q, r, p, d1, d2, d3, d4, d5, d6, d7, d8, d9⟩ := div_facts u b hb hu
    by_cases hge : (b : Int) ≤ u
    · have HN := (show At b n.toNat w wr u.toNat (k + 1) S from HA).next hb (by omega) (by omega)
      rw [d6, d7] at HN
      have HN2 : Hid (At b n.toNat w (wr.setCell ⟨w.heap.size, k, none⟩ (.int .u8 ((dg r).toNat : Int))) q k (dg r :: S)) := HN
      have hlo := HN.lo
      have d10 := d9 hge
      have hix := idx r (by omega)
      have e1 : bits .and .u64 u ((b : Int) - 1) = (r : Int) := and_pow u b t r (show 2 ^ t = b from HB) hb hb2 hu hu2 d7
      have e2 : u / 2 ^ t = (q : Int) := by
        rw [← d1, ← (show 2 ^ t = b from HB)]; simp
      clear HN d1 d2 d3 d4 d5 d6 d7 d9 HA
      go_wp2
      exact ⟨⟨(q : Int), k, dg r :: S, (by rw [Int.toNat_natCast]; exact HN2), by omega, by omega, hlo, by omega, rfl, by first | rfl | rw [e2]⟩, by simp [intOf]; omega⟩
    · clear d1 d2 d3 d4 d5 d6 d7 d8 d9
      obtain ⟨U, rfl⟩ := Int.eq_ofNat_of_zero_le hu
      have h := (show At b n.toNat w wr (U : Int).toNat (k + 1) S from HA)
      rw [Int.toNat_natCast] at h
      have hlen : (dg U :: S).length = 65 - k := by have := h.len; simp; omega
      have hrow := h.row.store hk (dg U)
      have HLI : Hid (wrt b n.toNat = dg U :: S) := by show wrt b n.toNat = dg U :: S; rw [h.told, wrt_last b U hb (by omega)]; rfl
      have hix := idx U (by omega)
      clear HA hu hu2 h hn hn2
      have hsl := slk w.heap.size k hk
      have hcv := cvk hrow hlen
      have hg := hrow.grown
      clear hrow hlen
      go_wp2
      go_ret2
      refine ⟨?_, hg⟩
      rw [show wrt b n.toNat = dg U :: S from HLI]
      rfl
set_option maxRecDepth 100000 in
set_option maxHeartbeats 2000000 in
theorem fmt_pow_neg (n0 n : Int) (b : Nat) (hb : 2 ≤ b) (hb2 : b ≤ 36) (hb10 : ((b : Int) == 10) = false) (t : Nat) (ht : t < 64) (hbt : 2 ^ t = b) (h42 : ∀ w, Tab w → Calls Tryd.prog 87 #[.int .u64 (b : Int)] w fun e w' => e = .returned (.int .i64 (t : Int)) ∧ w' = w) (hp : (bits .and .i64 (b : Int) ((b : Int) - 1) == 0) = true) (hw : IntKind.u64.wrap (-n0) = n) (hn : 0 ≤ n) (hn2 : n ≤ 18446744073709551615) (w : World) (hT : Tab w) :
    Calls Tryd.prog 73 #[.slice none 0 0, .int .u64 n0, .int .i64 b, .bool true, .bool false] w fun e w' => e = .returned (.tuple #[.slice none 0 0, .string ⟨(45 :: wrt b n.toNat).toArray⟩]) ∧ Grown w w' := by
  have h41 := fun w => pow2_no b true hp hb hb2 w
  have hv := zv63
  clear hp
  have H42 : Hid (∀ w, Tab w → Calls Tryd.prog 87 #[.int .u64 (b : Int)] w fun e w' => e = .returned (.int .i64 (t : Int)) ∧ w' = w) := h42
  have HB : Hid (2 ^ t = b) := hbt
  clear h42 hbt
  go_enter Tryd.func73, Tryd.ntmps73
  go_wp2_with (first
    | (go_at_call 86; refine (h41 _).mono ?_; rintro e w' ⟨rfl, rfl⟩)
    | (go_at_call 87; refine ((show ∀ w, Tab w → Calls Tryd.prog 87 #[.int .u64 (b : Int)] w fun e w' => e = .returned (.int .i64 (t : Int)) ∧ w' = w from H42) _ (hT.grown (Grown.alloc (Grown.refl _) _ _))).mono ?_; rintro e w' ⟨rfl, rfl⟩))
  clear h41 hv
  go_loopw [13, 1] (fun vi vu wr => ∃ (u : Int) (i : Nat) (S : List UInt8), Hid (At b n.toNat w wr u.toNat i S) ∧ 0 ≤ u ∧ u ≤ 18446744073709551615 ∧ 2 ≤ i ∧ i ≤ 65 ∧ vi = .int .i64 i ∧ vu = .int .u64 u) (fun _ vu _ => (intOf vu).toNat)
  case atStart => exact ⟨n, 65, [], At.start b n.toNat hb w, hn, hn2, by omega, by omega, rfl, rfl⟩
  case round =>
    obtain ⟨u, i, S, HA, hu, hu2, hi, hi2, rfl, rfl⟩ := hrel
    obtain ⟨k, rfl⟩ : ∃ k, i = k + 1 := ⟨i - 1, by omega⟩
    obtain ⟨⟨z, hc⟩, hf, hk⟩ := (show At b n.toNat w wr u.toNat (k + 1) S from HA).cellk
    obtain ⟨q, r, p, d1, d2, d3, d4, d5, d6, d7, d8, d9⟩ := div_facts u b hb hu
    by_cases hge : (b : Int) ≤ u
    · have HN := (show At b n.toNat w wr u.toNat (k + 1) S from HA).next hb (by omega) (by omega)
      rw [d6, d7] at HN
      have HN2 : Hid (At b n.toNat w (wr.setCell ⟨w.heap.size, k, none⟩ (.int .u8 ((dg r).toNat : Int))) q k (dg r :: S)) := HN
      have hlo := HN.lo
      have d10 := d9 hge
      have hix := idx r (by omega)
      have e1 : bits .and .u64 u ((b : Int) - 1) = (r : Int) := and_pow u b t r (show 2 ^ t = b from HB) hb hb2 hu hu2 d7
      have e2 : u / 2 ^ t = (q : Int) := by
        rw [← d1, ← (show 2 ^ t = b from HB)]; simp
      clear HN d1 d2 d3 d4 d5 d6 d7 d9 HA
      go_wp2
      exact ⟨⟨(q : Int), k, dg r :: S, (by rw [Int.toNat_natCast]; exact HN2), by omega, by omega, hlo, by omega, rfl, by first | rfl | rw [e2]⟩, by simp [intOf]; omega⟩
    · clear d1 d2 d3 d4 d5 d6 d7 d8 d9
      obtain ⟨U, rfl⟩ := Int.eq_ofNat_of_zero_le hu
      have h := (show At b n.toNat w wr (U : Int).toNat (k + 1) S from HA)
      rw [Int.toNat_natCast] at h
      have hlen : (dg U :: S).length = 65 - k := by have := h.len; simp; omega
      have hrow := h.row.store hk (dg U)
      have HLI : Hid (wrt b n.toNat = dg U :: S) := by show wrt b n.toNat = dg U :: S; rw [h.told, wrt_last b U hb (by omega)]; rfl
      have hix := idx U (by omega)
      obtain ⟨j, rfl⟩ : ∃ j, k = j + 1 := ⟨k - 1, by omega⟩
      obtain ⟨z2, hc2⟩ := h.row.cell j (by omega)
      have hf2 := h.row.free j (by omega)
      clear HA hu hu2 h hn hn2
      have hrow2 := hrow.store (by omega) 45
      have e45 : (((45 : UInt8).toNat : Nat) : Int) = 45 := rfl
      rw [e45] at hrow2
      have hsl := slk w.heap.size j (by omega)
      have hcv := cvk hrow2 (by simp at hlen ⊢; omega)
      have hg := hrow2.grown
      clear hrow hrow2 hlen e45
      go_wp2
      go_ret2
      refine ⟨?_, hg⟩
      rw [show wrt b n.toNat = dg U :: S from HLI]
      rfl
end Go.Proofs.YtogenhnonjkanaaDoor.Fm
