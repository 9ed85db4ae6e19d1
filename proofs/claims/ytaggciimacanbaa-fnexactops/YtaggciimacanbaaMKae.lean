import Derived.Test.YtaggciimacanbaaMKac
namespace Go.Proofs.Ytaggciimacanbaa.Fo
open Go.ChangeShapes Go.WideShapes Go.ChangeAt Go.RowKit
set_option linter.unusedVariables false
set_option maxRecDepth 100000
set_option maxHeartbeats 8000000 in
theorem sp_hok {ok : Bool} {g l s : Int} (w : World) :
    Calls Try.prog 92 #[.agg #[.bool ok, .int .i64 g, .int .i64 l, .int .i64 s]] w fun e w' => e = .returned (.bool (dc (Hok ok g l))) ∧ Kb 0 w w' := by
  by_cases h : Hok ok g l
  · rw [dc_t h]
    obtain ⟨rfl, h1, h2, h3, h4⟩ := h
    go_enter Try.func92, Try.ntmps92
    go_wp2_with fail
    go_ret
    exact ⟨rfl, kb_alloc _ _ _⟩
  rw [dc_f h]
  cases ok with
  | false =>
    clear h
    go_enter Try.func92, Try.ntmps92
    go_wp2_with fail
    go_ret
    exact ⟨rfl, kb_alloc _ _ _⟩
  | true =>
    by_cases h1 : 1 ≤ g
    rotate_left
    · clear h
      go_enter Try.func92, Try.ntmps92
      go_wp2_with fail
      go_ret
      exact ⟨rfl, kb_alloc _ _ _⟩
    by_cases h2 : g ≤ 1000000000000
    rotate_left
    · clear h
      go_enter Try.func92, Try.ntmps92
      go_wp2_with fail
      go_ret
      exact ⟨rfl, kb_alloc _ _ _⟩
    by_cases h3 : 1 ≤ l
    rotate_left
    · clear h
      go_enter Try.func92, Try.ntmps92
      go_wp2_with fail
      go_ret
      exact ⟨rfl, kb_alloc _ _ _⟩
    have h4 : ¬ l ≤ 8192 := fun q => h ⟨rfl, h1, h2, h3, q⟩
    clear h
    go_enter Try.func92, Try.ntmps92
    go_wp2_with fail
    go_ret
    exact ⟨rfl, kb_alloc _ _ _⟩
end Go.Proofs.Ytaggciimacanbaa.Fo

namespace Go.Proofs.Ytaggciimacanbaa.Fo
open Go.ChangeShapes Go.WideShapes Go.ChangeAt Go.RowKit
set_option linter.unusedVariables false
set_option maxRecDepth 100000
set_option maxHeartbeats 16000000 in
theorem sp_block {ok : Bool} {g l s : Int} (w : World) :
    Calls Try.prog 94 #[.agg #[.bool ok, .int .i64 g, .int .i64 l, .int .i64 s]] w fun e w' => ∃ v, e = .returned v ∧ RowB w.heap.size w' v 64 (fun i => .int .u8 (hdb g l s i)) ∧ Kb 0 w w' := by
  obtain ⟨w1, hw1⟩ : ∃ w1, w1 = w.alloc (.cells #[.bool ok, .int .i64 g, .int .i64 l, .int .i64 s] 46) := ⟨_, rfl⟩
  have k1 : Kb 0 w w1 := by rw [hw1]; exact kb_alloc _ _ _
  have z1 : w1.heap.size = w.heap.size + 1 := by rw [hw1]; simp
  have b1 : w1.heap[w.heap.size]? = some (.cells #[.bool ok, .int .i64 g, .int .i64 l, .int .i64 s] 46 (0, 0)) := by rw [hw1]; exact alloc_new _ _ _
  obtain ⟨B, hB⟩ : ∃ B, B = w.heap.size + 1 := ⟨_, rfl⟩
  obtain ⟨w2, hw2⟩ : ∃ w2, w2 = w1.alloc (.cells #[.int .u8 72, .int .u8 69, .int .u8 65, .int .u8 68] 5) := ⟨_, rfl⟩
  have k12 : Kb 0 w1 w2 := by rw [hw2]; exact kb_alloc _ _ _
  have z2 : w2.heap.size = w.heap.size + 2 := by rw [hw2, World.size_alloc, z1]
  obtain ⟨L2, hL2⟩ : ∃ L : List Int, L = [72, 69, 65, 68] := ⟨_, rfl⟩
  have hl2 : L2.length = 4 := by rw [hL2]; rfl
  have o2 : w2.ownsRow B 5 1 (.slice (some ⟨B, 0, none⟩) 4 4) L2.length (bvs L2) := by
    rw [hL2]
    refine ⟨rfl, .inr ⟨B, 4, #[.int .u8 72, .int .u8 69, .int .u8 65, .int .u8 68], rfl, Nat.le_refl _, by rw [hw2, hB, ← z1]; exact alloc_new _ _ _, Nat.le_refl _, ?_, rfl, rfl⟩⟩
    unfold maxLen; omega
  have HB : Hid (w2.heap[w.heap.size]? = some (.cells #[.bool ok, .int .i64 g, .int .i64 l, .int .i64 s] 46 (0, 0)) ∧ B ≤ w2.heap.size ∧ Kb 0 w w2 ∧ B = w.heap.size + 1) := (⟨(k12.block _ (Nat.zero_le _) (by omega)).trans b1, by omega, k1.trans k12, hB⟩ : _ ∧ _)
  have HK2 : Hid (Kx B w2 w2) := Kx.refl B w2
  have HL2 : Hid (L2 = [72, 69, 65, 68]) := hL2
  have HW : Hid (w1 = w.alloc (.cells #[.bool ok, .int .i64 g, .int .i64 l, .int .i64 s] 46) ∧ w2 = w1.alloc (.cells #[.int .u8 72, .int .u8 69, .int .u8 65, .int .u8 68] 5) ∧ B = w.heap.size + 1) := (⟨hw1, hw2, hB⟩ : _ ∧ _)
  clear hw1 k1 z1 b1 hB hw2 k12 z2 hL2
  go_enter Try.func94, Try.ntmps94
  go_upto_region 2 with fail
  rw [← (show _ ∧ _ ∧ _ from HW).1, ← (show _ ∧ _ ∧ _ from HW).2.1, ← (show _ ∧ _ ∧ _ from HW).2.2]
  clear HW
  have c2 : w2.cell? ⟨w.heap.size, 1, none⟩ = some (.int .i64 g) := cell_of (((show Kx B w2 w2 from HK2).nt _ _ _ (show _ ∧ _ ∧ _ from HB).1 (by decide)).trans (show _ ∧ _ ∧ _ from HB).1) rfl
  have hcv2 : IntKind.u64.wrap g = (((g % 18446744073709551616).toNat : Nat) : Int) := by rw [wrap_u64]; omega
  have HE2 := sp_eight (g % 18446744073709551616).toNat w2 o2 (by have := (show Kx B w2 w2 from HK2).size; have := (show _ ∧ _ ∧ _ from HB).2.1; omega) (by have := hl2; omega) (by omega)
  obtain ⟨N2, hN2⟩ : ∃ N : Int, N = (((g % 18446744073709551616).toNat : Nat) : Int) := ⟨_, rfl⟩
  rw [← hN2] at hcv2 HE2
  clear hN2 o2
  go_upto_region 3 with (go_at_call 108; refine HE2.mono ?_; rintro e w3 ⟨v3, rfl, o3, k3⟩)
  have HK3 : Hid (Kx B w2 w3) := (show Kx B w2 w2 from HK2).trans k3
  obtain ⟨L3, hL3⟩ : ∃ L, L = L2 ++ eig (g % 18446744073709551616).toNat 8 := ⟨_, rfl⟩
  rw [← hL3] at o3
  have hl3 : L3.length = 12 := by rw [hL3, List.length_append, eig_len, hl2]
  have HL3 : Hid (L3 = L2 ++ eig (g % 18446744073709551616).toNat 8) := hL3
  clear HE2 c2 hcv2 k3 HK2 hL3
  have c3 : w3.cell? ⟨w.heap.size, 2, none⟩ = some (.int .i64 l) := cell_of (((show Kx B w2 w3 from HK3).nt _ _ _ (show _ ∧ _ ∧ _ from HB).1 (by decide)).trans (show _ ∧ _ ∧ _ from HB).1) rfl
  have hcv3 : IntKind.u64.wrap l = (((l % 18446744073709551616).toNat : Nat) : Int) := by rw [wrap_u64]; omega
  have HE3 := sp_eight (l % 18446744073709551616).toNat w3 o3 (by have := (show Kx B w2 w3 from HK3).size; have := (show _ ∧ _ ∧ _ from HB).2.1; omega) (by have := hl3; omega) (by omega)
  obtain ⟨N3, hN3⟩ : ∃ N : Int, N = (((l % 18446744073709551616).toNat : Nat) : Int) := ⟨_, rfl⟩
  rw [← hN3] at hcv3 HE3
  obtain ⟨pp3, cc3, hv3⟩ := own_shape o3
  rw [hl3] at hv3
  subst hv3
  clear hN3 o3
  go_upto_region 4 with (go_at_call 108; refine HE3.mono ?_; rintro e w4 ⟨v4, rfl, o4, k4⟩)
  have HK4 : Hid (Kx B w2 w4) := (show Kx B w2 w3 from HK3).trans k4
  obtain ⟨L4, hL4⟩ : ∃ L, L = L3 ++ eig (l % 18446744073709551616).toNat 8 := ⟨_, rfl⟩
  rw [← hL4] at o4
  have hl4 : L4.length = 20 := by rw [hL4, List.length_append, eig_len, hl3]
  have HL4 : Hid (L4 = L3 ++ eig (l % 18446744073709551616).toNat 8) := hL4
  clear HE3 c3 hcv3 k4 HK3 hL4
  have c4 : w4.cell? ⟨w.heap.size, 3, none⟩ = some (.int .i64 s) := cell_of (((show Kx B w2 w4 from HK4).nt _ _ _ (show _ ∧ _ ∧ _ from HB).1 (by decide)).trans (show _ ∧ _ ∧ _ from HB).1) rfl
  have hcv4 : IntKind.u64.wrap s = (((s % 18446744073709551616).toNat : Nat) : Int) := by rw [wrap_u64]; omega
  have HE4 := sp_eight (s % 18446744073709551616).toNat w4 o4 (by have := (show Kx B w2 w4 from HK4).size; have := (show _ ∧ _ ∧ _ from HB).2.1; omega) (by have := hl4; omega) (by omega)
  obtain ⟨N4, hN4⟩ : ∃ N : Int, N = (((s % 18446744073709551616).toNat : Nat) : Int) := ⟨_, rfl⟩
  rw [← hN4] at hcv4 HE4
  obtain ⟨pp4, cc4, hv4⟩ := own_shape o4
  rw [hl4] at hv4
  subst hv4
  clear hN4 o4
  go_upto_region 5 with (go_at_call 108; refine HE4.mono ?_; rintro e w5 ⟨v5, rfl, o5, k5⟩)
  have HK5 : Hid (Kx B w2 w5) := (show Kx B w2 w4 from HK4).trans k5
  obtain ⟨L5, hL5⟩ : ∃ L, L = L4 ++ eig (s % 18446744073709551616).toNat 8 := ⟨_, rfl⟩
  rw [← hL5] at o5
  have hl5 : L5.length = 28 := by rw [hL5, List.length_append, eig_len, hl4]
  have HL5 : Hid (L5 = L4 ++ eig (s % 18446744073709551616).toNat 8) := hL5
  clear HE4 c4 hcv4 k5 HK4 hL5
  have hL5 : L5 = hd28 g l s := by
    rw [show L5 = _ from HL5, show L4 = _ from HL4, show L3 = _ from HL3, show L2 = _ from HL2]
    rfl
  obtain ⟨p5, c5, hv5⟩ := own_shape o5
  rw [hl5] at hv5
  have HS := sp_sum w5 (own_rowv o5) (by omega) (bok_getD (by rw [hL5]; exact hd28_bok g l s))
  rw [← sm64_int] at HS
  have HE := sp_eight (sm64 L5) w5 o5 (by have := (show Kx B w2 w5 from HK5).size; have := (show _ ∧ _ ∧ _ from HB).2.1; omega) (by omega) (sm64_lt _)
  subst hv5
  obtain ⟨S, hS⟩ : ∃ S : Nat, S = sm64 L5 := ⟨_, rfl⟩
  rw [← hS] at HS HE
  have HSS : Hid (S = sm64 L5 ∧ L5 = hd28 g l s) := (⟨hS, hL5⟩ : _ ∧ _)
  clear hS hL5 o5 HL2 HL3 HL4 HL5
  go_wp2_with fail
  refine HS.mono ?_
  rintro e w6 ⟨rfl, hw6⟩
  rw [hw6]
  clear HS hw6
  go_wp2_with fail
  refine HE.mono ?_
  rintro e w7 ⟨v7, rfl, o7, k7⟩
  have hk7 := (show Kx B w2 w5 from HK5).trans k7
  obtain ⟨L7, hL7⟩ : ∃ L, L = hd36 g l s := ⟨_, rfl⟩
  have e7 : L5 ++ eig S 8 = L7 := by rw [(show _ ∧ _ from HSS).1, (show _ ∧ _ from HSS).2, hL7]; rfl
  rw [e7] at o7
  have hl7 : L7.length = 36 := by rw [hL7]; exact hd36_len g l s
  have HI : Hid (Kx B w2 w7 ∧ w7.ownsRow B 5 1 v7 (L7 ++ List.replicate 0 0).length (bvs (L7 ++ List.replicate 0 0))) := (⟨hk7, by simpa using o7⟩ : _ ∧ _)
  have HL7 : Hid (L7 = hd36 g l s) := hL7
  obtain ⟨p7, c7, hv7⟩ := own_shape o7
  rw [hl7] at hv7
  subst hv7
  clear HE HK5 k7 hk7 e7 o7 HSS hL7
  go_wp2_with fail
  go_loopw [3] (fun s wr => ∃ (k : Nat) (p : Option Addr) (c : Nat), s = .slice p (36 + k) c ∧ k ≤ 28 ∧ Hid (Kx B w2 wr ∧ wr.ownsRow B 5 1 (.slice p (36 + k) c) (L7 ++ List.replicate k 0).length (bvs (L7 ++ List.replicate k 0)))) (fun s _ => match s with | .slice _ n _ => 64 - n | _ => 0)
  case atStart => exact ⟨0, p7, c7, rfl, by omega, HI⟩
  case round =>
    clear HI
    obtain ⟨k, p, c, rfl, hk, HX⟩ := hrel
    obtain ⟨kk, oo⟩ := (show _ ∧ _ from HX)
    have hln : (L7 ++ List.replicate k (0 : Int)).length = 36 + k := by rw [List.length_append, List.length_replicate, hl7]
    rcases Nat.lt_or_ge k 28 with h28 | h28
    · have hkI : (36 : Int) + (k : Int) < 64 := by omega
      obtain ⟨i0, hi0, hz0, hz1, hz2⟩ := info_parts infoB
      have HI0 : Hid (Try.prog.info? 5 = some i0) := hi0
      have hwz : B ≤ wr.heap.size := by have := kk.size; have := (show _ ∧ _ ∧ _ from HB).2.1; omega
      have hown : (wr.alloc (.cells #[.int .u8 0] 5)).ownsRow B 5 1 (.slice p (36 + k) c) (36 + k) (bvs (L7 ++ List.replicate k 0)) := by
        rw [← hln]
        rw [← hln] at oo
        exact own_keep oo (fun q e => (kb_alloc 0 wr _).block q (Nat.zero_le _) (oo.lt q e).2)
      have hqc := qr_cells wr #[.int .u8 0] 5 [.int .u8 0] rfl
      have h1c : ∀ u ∈ ([.int .u8 0] : List Value), u.oneCell' = true := by intro u hu; simp at hu; subst hu; rfl
      have HSTP : Hid (∀ (v' : Value) (w3 : World), w3.ownsRow B 5 1 v' (36 + k + 1) (bvs (L7 ++ List.replicate k 0) ++ [.int .u8 0]) → (wr.alloc (.cells #[.int .u8 0] 5)).grownBy w3 (Value.slice p (36 + k) c).ownBlock → Kx B w2 w3 ∧ w3.ownsRow B 5 1 v' (L7 ++ List.replicate (k + 1) 0).length (bvs (L7 ++ List.replicate (k + 1) 0))) := (fun v' w3 h1 h2 => by
        refine ⟨(kk.trans (Kx.of_kb (kb_alloc 0 wr _))).trans (Kx.grown hown h2), ?_⟩
        have e : L7 ++ List.replicate (k + 1) (0 : Int) = (L7 ++ List.replicate k 0) ++ [0] := by rw [List.replicate_succ', List.append_assoc]
        rw [e, List.length_append, hln, bvs_app]
        exact h1 : ∀ (v' : Value) (w3 : World), _)
      clear hi0 kk oo HX
      go_wp2_with (at_builtin; refine wpList_append_own _ rfl (.tmp 27) (.tmp 28) 26 rfl B 5 i0 (.int .u8 0) 1 1 Try.underlying26 HI0 hz0 hz1 hz2 rfl (by decide) _ _ _ rfl hown ⟨wr.heap.size, 0, none⟩ 1 1 [.int .u8 0] rfl rfl hqc h1c (by unfold maxLen; omega) (by omega) (by simp; omega) ?_; intro v' w3 hown3 hgr3 _; have HN := (show ∀ (v' : Value) (w3 : World), _ from HSTP) _ _ hown3 hgr3; obtain ⟨a3, c3, hv3⟩ := own_shape hown3; subst hv3; replace HN : Hid (Kx B w2 w3 ∧ w3.ownsRow B 5 1 (.slice a3 (36 + k + 1) c3) (L7 ++ List.replicate (k + 1) 0).length (bvs (L7 ++ List.replicate (k + 1) 0))) := HN; clear hown3 hgr3 hown hqc h1c HSTP)
      go_roundw
      case rel => exact ⟨k + 1, a3, c3, rfl, by omega, HN⟩
      case measure =>
        show 64 - (36 + k + 1) < 64 - (36 + k)
        omega
    · obtain rfl : k = 28 := by omega
      have hkI : ¬ ((36 : Int) + ((28 : Nat) : Int) < 64) := by omega
      have HF : Hid (RowB w.heap.size wr (.slice p 64 c) 64 (fun i => .int .u8 (hdb g l s i)) ∧ Kb 0 w wr) := by
        show _ ∧ _
        obtain ⟨bz, hz, kw2, hB⟩ := (show _ ∧ _ ∧ _ ∧ _ from HB)
        refine ⟨?_, ⟨kk.os.trans kw2.os, kk.output.trans kw2.output, Nat.le_trans kw2.size kk.size, fun q _ hq => (kk.lo q (by omega) (by have := kw2.size; omega)).trans (kw2.block q (Nat.zero_le _) hq)⟩⟩
        refine ⟨p, c, rfl, fun _ => ?_⟩
        obtain ⟨p', c', e, h2⟩ := own_rowv oo
        rw [hln] at e h2
        obtain ⟨rfl, _, rfl⟩ := (Value.slice.injEq _ _ _ _ _ _).mp e
        obtain ⟨a, e1, e2, e3⟩ := h2 (by omega)
        refine ⟨a, e1, e2, ?_, fun i hi => ?_⟩
        · have := (oo.lt a.block (by rw [e1]; rfl)).1
          omega
        · rw [e3 i hi]
          show some (Value.int .u8 ((L7 ++ List.replicate 28 0).getD i 0)) = some (Value.int .u8 (if i < 36 then (hd36 g l s).getD i 0 else 0))
          rw [← (show L7 = _ from HL7)]
          rcases Nat.lt_or_ge i 36 with h | h
          · rw [if_pos h, List.getD_eq_getElem?_getD, List.getD_eq_getElem?_getD, List.getElem?_append_left (show i < L7.length by omega)]
          · rw [if_neg (by omega), List.getD_eq_getElem?_getD, List.getElem?_append_right (show L7.length ≤ i by omega), List.getElem?_replicate, if_pos (by omega)]
            rfl
      clear kk oo HX hln HB HL7
      go_wp2_with fail
      go_ret
      exact ⟨_, rfl, HF⟩
end Go.Proofs.Ytaggciimacanbaa.Fo
