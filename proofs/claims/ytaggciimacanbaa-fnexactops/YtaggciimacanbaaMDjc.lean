import Derived.Deep.QuietTactic
import Derived.BigQuiet
import Derived.Test.YtaggciimacanbaaMDhd
import Derived.Test.YtaggciimacanbaaMSup
namespace Go.Proofs.Ytaggciimacanbaa.Fo
open Go.ChangeShapes Go.WideShapes Go.ChangeAt Go.RowKit
set_option linter.unusedVariables false
set_option maxRecDepth 100000
set_option linter.unusedSimpArgs false
/-- the cells of i blocks from f on -/
def il (P : Nat → Nat → Int) (f : Nat) : Nat → List Value
  | 0 => []
  | i + 1 => il P f i ++ pgl (P (f + i))
theorem il_len (P : Nat → Nat → Int) (f : Nat) : ∀ i, (il P f i).length = i * 64
  | 0 => rfl
  | i + 1 => by rw [il, List.length_append, il_len P f i, pgl_len, Nat.add_mul, Nat.one_mul]
/-- the bytes from block f on -/
def img (P : Nat → Nat → Int) (f : Nat) : Nat → Int := fun j => P (f + j / 64) (j % 64)
theorem il_at (P : Nat → Nat → Int) (f : Nat) : ∀ n j, j < n * 64 → (il P f n)[j]? = some (.int .u8 (img P f j))
  | 0, j, h => by omega
  | n + 1, j, h => by
    rw [il]
    rcases Nat.lt_or_ge j (n * 64) with q | q
    · rw [List.getElem?_append_left (by rw [il_len]; exact q)]
      exact il_at P f n j q
    · rw [List.getElem?_append_right (by rw [il_len]; exact q), il_len, pgl_at _ _ (by omega)]
      unfold img
      rw [show j / 64 = n by omega, show j % 64 = j - n * 64 by omega]
set_option maxHeartbeats 4000000 in
theorem im_imgblk0 (w : World) : Calls Try.prog 68 #[.int .i64 0] w fun e w' => e = .returned (.int .i64 2) ∧ w' = w := by
  go_enter Try.func68, Try.ntmps68
  go_wp2_with fail
  go_ret
  exact ⟨rfl, rfl⟩
set_option maxHeartbeats 4000000 in
theorem im_imgblk1 (w : World) : Calls Try.prog 68 #[.int .i64 1] w fun e w' => e = .returned (.int .i64 130) ∧ w' = w := by
  go_enter Try.func68, Try.ntmps68
  go_wp2_with fail
  go_ret
  exact ⟨rfl, rfl⟩
set_option maxHeartbeats 4000000 in
theorem sp_first0 (w : World) : Calls Try.prog 100 #[.int .i64 0] w fun e w' => e = .returned (.int .i64 2) ∧ w' = w := by
  go_enter Try.func100, Try.ntmps100
  go_wp2_with fail
  go_ret
  exact ⟨rfl, rfl⟩
set_option maxHeartbeats 4000000 in
theorem sp_first1 (w : World) : Calls Try.prog 100 #[.int .i64 1] w fun e w' => e = .returned (.int .i64 130) ∧ w' = w := by
  go_enter Try.func100, Try.ntmps100
  go_wp2_with fail
  go_ret
  exact ⟨rfl, rfl⟩
set_option maxHeartbeats 16000000 in
theorem im_image0 {w0 : World} {dv : Nat} {P : Nat → Nat → Int} {m : Nat} {Q : Nat → Ed} {vw : Value} (w : World) (h : Dr w0 dv P m Q vw w) :
    Calls Try.prog 99 #[.pointer (some ⟨dv, 0, none⟩), .int .i64 0] w fun e w' => ∃ g c, e = .returned (.slice (some ⟨g, 0, none⟩) 8192 c) ∧ OwnR w' (.slice (some ⟨g, 0, none⟩) 8192 c) g 8192 (ub (img P 2)) ∧ w.heap.size ≤ g ∧ g < w'.heap.size ∧ 8192 ≤ c ∧ Kb 0 w w' := by
  have HRG : Hid (∀ W, Kb 0 w W → ∀ i, i < 128 → W.rangeAt dv (128 + i * 64) (pgl (P (2 + i)))) := (fun W k i hi t v hv => by
    have ht : t < 64 := by have := (List.getElem?_eq_some_iff.1 hv).1; rw [pgl_len] at this; exact this
    rw [pgl_at _ t ht] at hv
    injection hv with hv
    have := pgs_range.1 (h.keep k).rg (2 + i) (by omega) t ht
    rw [← hv, ← this]
    congr 2
    omega : ∀ W, _)
  have HI0 : Hid (w.ownsRow w.heap.size 5 1 (.slice none 0 0) (0 * 64) (il P 2 0) ∧ Kb 0 w w) := (⟨World.ownsRow_nil _ _ _ _, Kb.refl _ _⟩ : _ ∧ _)
  obtain ⟨i1, hi1, hz0, hz1, hz2⟩ := infoU8
  have HI1 : Hid (Try.prog.info? 5 = some i1) := hi1
  have HIB := im_imgblk0 w
  clear h hi1
  go_enter Try.func99, Try.ntmps99
  go_wp2_with fail
  refine HIB.mono ?_
  rintro e w1 ⟨rfl, hw1⟩
  rw [hw1]
  clear hw1 HIB
  go_wp2_with fail
  go_loopw [5, 19] (fun s5 s19 wr => ∃ (i : Nat) (v : Value), s5 = v ∧ s19 = .int .i64 (i : Int) ∧ i ≤ 128 ∧ Hid (wr.ownsRow w.heap.size 5 1 v (i * 64) (il P 2 i) ∧ Kb 0 w wr)) (fun _ s19 _ => 128 - (intOf s19).toNat)
  case atStart => exact ⟨0, _, rfl, rfl, Nat.zero_le _, HI0⟩
  case round =>
    clear HI0
    obtain ⟨i, v, rfl, rfl, hil, HX⟩ := hrel
    obtain ⟨hro, hkb⟩ := (show _ ∧ _ from HX)
    obtain ⟨pl, cl, rfl⟩ := own_shape hro
    clear HX
    by_cases hi : i < 128
    case neg =>
      obtain rfl : i = 128 := by omega
      obtain ⟨g, cap, eg, hgd, hgc, hcell⟩ := own_cells hro (by decide)
      injection eg with eg1 _ eg3
      subst eg1
      subst eg3
      have hlt := hro.lt g (by rfl)
      have HF : Hid (OwnR wr (.slice (some ⟨g, 0, none⟩) 8192 cl) g 8192 (ub (img P 2)) ∧ w.heap.size ≤ g ∧ g < wr.heap.size ∧ 8192 ≤ cl ∧ Kb 0 w wr) := (⟨⟨⟨_, _, rfl, fun _ => ⟨rfl, hgc⟩⟩, fun j hj => by
        rw [hcell j (by omega), il_at P 2 128 j (by omega)]
        rfl, fun _ j => hro.frozenAt j⟩, hlt.1, hlt.2, hgc, hkb⟩ : _ ∧ _)
      clear hro hkb hgd hgc hcell hlt HI1 hz0 hz1 hz2 HRG hil hi
      rw [show ((128 : Nat) : Int) = (128 : Int) from rfl]
      go_wp2_with fail
      go_ret
      exact ⟨_, _, rfl, HF⟩
    have hiI : (i : Int) < 128 := by omega
    have hr0 := (show ∀ W, Kb 0 w W → ∀ i, i < 128 → _ from HRG) wr hkb i hi
    obtain ⟨PG, hPG⟩ : ∃ PG, PG = pgl (P (2 + i)) := ⟨_, rfl⟩
    obtain ⟨W5, hW5⟩ : ∃ W5, W5 = (wr.alloc (.cells Z64 92)).setCells wr.heap.size 0 PG := ⟨_, rfl⟩
    obtain ⟨t5, k5, r5, z5⟩ := page_new wr (P (2 + i)) W5 (by rw [← hPG]; exact hW5)
    rw [← hPG] at t5 r5 hr0
    have hlP : (Try.prog.info? 92).map (·.size) = some PG.length := by rw [hPG, pgl_len]; exact infoP
    have h1P : PG.toArray.all (·.oneCell') = true := by rw [hPG]; exact all_oneCell_toArray (pgl_one _)
    have HP5 : Hid ((wr.alloc (.cells Z64 92)).there wr.heap.size 0 PG.toArray.size ∧ (Try.prog.info? 92).map (·.size) = some PG.length ∧ PG.toArray.all (·.oneCell') = true ∧ W5 = (wr.alloc (.cells Z64 92)).setCells wr.heap.size 0 PG ∧ W5.rangeAt wr.heap.size 0 PG ∧ wr.rangeAt dv (128 + i * 64) PG) := (⟨t5, hlP, h1P, hW5, r5, hr0⟩ : _ ∧ _)
    obtain ⟨PC, hPC⟩ : ∃ PC, PC = il P 2 i := ⟨_, rfl⟩
    have HOW : Hid (W5.ownsRow w.heap.size 5 1 (.slice pl (i * 64) cl) (i * 64) PC ∧ w.heap.size ≤ W5.heap.size ∧ (∀ j u, PG[j]? = some u → W5.cell? ((⟨wr.heap.size, 0, none⟩ : Addr).add j) = some u) ∧ PG.length = 64 * 1 ∧ ∀ u ∈ PG, u.oneCell' = true) := (⟨by rw [hPC]; exact own_keep hro (fun q hq => k5.block q (Nat.zero_le _) (hro.lt q hq).2), Nat.le_trans hkb.size k5.size, fun j u hu => by rw [addr0]; have := r5 j u hu; rw [Nat.zero_add] at this; exact this, by rw [hPG, pgl_len], by rw [hPG]; exact pgl_one _⟩ : _ ∧ _)
    have HNX : Hid (∀ (W8 : World) (g cap : Nat), W8.ownsRow w.heap.size 5 1 (.slice (some ⟨g, 0, none⟩) (i * 64 + 64) cap) (i * 64 + 64) (PC ++ PG) → W5.grownBy W8 (Value.slice pl (i * 64) cl).ownBlock → W8.ownsRow w.heap.size 5 1 (.slice (some ⟨g, 0, none⟩) (i * 64 + 64) cap) ((i + 1) * 64) (il P 2 (i + 1)) ∧ Kb 0 w W8) := (fun W8 g cap h8 g8 => by
      have kw5 := hkb.trans k5
      refine ⟨?_, ⟨by rw [g8.os]; exact kw5.os, by rw [g8.output]; exact kw5.output, Nat.le_trans kw5.size g8.size, fun q h1 h2 => ?_⟩⟩
      · rw [il, ← hPC, ← hPG, Nat.add_mul, Nat.one_mul]
        exact h8
      · have := kw5.size
        exact (g8.block q (by omega) (fun e => by have := (hro.lt q e.symm).1; omega)).trans (kw5.block q h1 h2) : ∀ (W8 : World) (g cap : Nat), _)
    clear hro hkb t5 k5 r5 z5 hlP h1P hW5 hPG hPC hr0 HRG hil
    go_upto_region 6 with (first | (refine wpList_load_mid (by rfl) 92 (.tmp 21) (by rfl) dv (128 + i * 64) (by first | rfl | simp [Act.eval, Addr.add]) PG _ (show _ ∧ _ ∧ _ ∧ _ ∧ _ ∧ _ from HP5).2.2.2.2.2 und_page rfl (show _ ∧ _ ∧ _ from HP5).2.1 ?_) | (refine wpList_store_mid (by rfl) 92 (.tmp 8) (.tmp 22) (by rfl) wr.heap.size 0 PG.toArray (by rfl) (by rfl) (show _ ∧ _ from HP5).1 (show _ ∧ _ ∧ _ from HP5).2.1 (show _ ∧ _ ∧ _ ∧ _ from HP5).2.2.1 ?_))
    generalize hwg : World.setCells _ _ _ _ = wg
    have hwe : wg = W5 := hwg.symm.trans (show _ ∧ _ ∧ _ ∧ _ ∧ _ from HP5).2.2.2.1.symm
    rw [hwe]
    clear hwg hwe HP5
    go_wp2_with (refine wpList_append_lies _ (by rfl) (.tmp 23) (.tmp 24) 26 (by rfl) w.heap.size 5 i1 (.int .u8 0) 1 1 Try.underlying26 HI1 hz0 hz1 hz2 rfl (by decide) (.slice pl (i * 64) cl) (i * 64) PC (by rfl) (show _ ∧ _ from HOW).1 ⟨wr.heap.size, 0, none⟩ 64 64 PG (by rfl) (show _ ∧ _ ∧ _ ∧ _ from HOW).2.2.2.1 (show _ ∧ _ ∧ _ from HOW).2.2.1 (show _ ∧ _ ∧ _ ∧ _ from HOW).2.2.2.2 (by decide) (by unfold maxLen; omega) (by omega) (show _ ∧ _ ∧ _ from HOW).2.1 _ rfl ?_; intro g' cap' w8 hown1 hgrow1 hat hlt; have HN := (show ∀ (W8 : World) (g cap : Nat), _ from HNX) w8 g' cap' hown1 hgrow1; clear hown1 hgrow1 hat hlt)
    go_roundw
    case rel => exact ⟨i + 1, _, rfl, by go_num, by omega, by have e : (i + 1) * 64 = i * 64 + 64 := by omega
                                                              rw [e] at HN ⊢
                                                              exact HN⟩
    case measure => simp [intOf]; omega
set_option maxHeartbeats 16000000 in
theorem im_image1 {w0 : World} {dv : Nat} {P : Nat → Nat → Int} {m : Nat} {Q : Nat → Ed} {vw : Value} (w : World) (h : Dr w0 dv P m Q vw w) :
    Calls Try.prog 99 #[.pointer (some ⟨dv, 0, none⟩), .int .i64 1] w fun e w' => ∃ g c, e = .returned (.slice (some ⟨g, 0, none⟩) 8192 c) ∧ OwnR w' (.slice (some ⟨g, 0, none⟩) 8192 c) g 8192 (ub (img P 130)) ∧ w.heap.size ≤ g ∧ g < w'.heap.size ∧ 8192 ≤ c ∧ Kb 0 w w' := by
  have HRG : Hid (∀ W, Kb 0 w W → ∀ i, i < 128 → W.rangeAt dv (8320 + i * 64) (pgl (P (130 + i)))) := (fun W k i hi t v hv => by
    have ht : t < 64 := by have := (List.getElem?_eq_some_iff.1 hv).1; rw [pgl_len] at this; exact this
    rw [pgl_at _ t ht] at hv
    injection hv with hv
    have := pgs_range.1 (h.keep k).rg (130 + i) (by omega) t ht
    rw [← hv, ← this]
    congr 2
    omega : ∀ W, _)
  have HI0 : Hid (w.ownsRow w.heap.size 5 1 (.slice none 0 0) (0 * 64) (il P 130 0) ∧ Kb 0 w w) := (⟨World.ownsRow_nil _ _ _ _, Kb.refl _ _⟩ : _ ∧ _)
  obtain ⟨i1, hi1, hz0, hz1, hz2⟩ := infoU8
  have HI1 : Hid (Try.prog.info? 5 = some i1) := hi1
  have HIB := im_imgblk1 w
  clear h hi1
  go_enter Try.func99, Try.ntmps99
  go_wp2_with fail
  refine HIB.mono ?_
  rintro e w1 ⟨rfl, hw1⟩
  rw [hw1]
  clear hw1 HIB
  go_wp2_with fail
  go_loopw [5, 19] (fun s5 s19 wr => ∃ (i : Nat) (v : Value), s5 = v ∧ s19 = .int .i64 (i : Int) ∧ i ≤ 128 ∧ Hid (wr.ownsRow w.heap.size 5 1 v (i * 64) (il P 130 i) ∧ Kb 0 w wr)) (fun _ s19 _ => 128 - (intOf s19).toNat)
  case atStart => exact ⟨0, _, rfl, rfl, Nat.zero_le _, HI0⟩
  case round =>
    clear HI0
    obtain ⟨i, v, rfl, rfl, hil, HX⟩ := hrel
    obtain ⟨hro, hkb⟩ := (show _ ∧ _ from HX)
    obtain ⟨pl, cl, rfl⟩ := own_shape hro
    clear HX
    by_cases hi : i < 128
    case neg =>
      obtain rfl : i = 128 := by omega
      obtain ⟨g, cap, eg, hgd, hgc, hcell⟩ := own_cells hro (by decide)
      injection eg with eg1 _ eg3
      subst eg1
      subst eg3
      have hlt := hro.lt g (by rfl)
      have HF : Hid (OwnR wr (.slice (some ⟨g, 0, none⟩) 8192 cl) g 8192 (ub (img P 130)) ∧ w.heap.size ≤ g ∧ g < wr.heap.size ∧ 8192 ≤ cl ∧ Kb 0 w wr) := (⟨⟨⟨_, _, rfl, fun _ => ⟨rfl, hgc⟩⟩, fun j hj => by
        rw [hcell j (by omega), il_at P 130 128 j (by omega)]
        rfl, fun _ j => hro.frozenAt j⟩, hlt.1, hlt.2, hgc, hkb⟩ : _ ∧ _)
      clear hro hkb hgd hgc hcell hlt HI1 hz0 hz1 hz2 HRG hil hi
      rw [show ((128 : Nat) : Int) = (128 : Int) from rfl]
      go_wp2_with fail
      go_ret
      exact ⟨_, _, rfl, HF⟩
    have hiI : (i : Int) < 128 := by omega
    have hr0 := (show ∀ W, Kb 0 w W → ∀ i, i < 128 → _ from HRG) wr hkb i hi
    obtain ⟨PG, hPG⟩ : ∃ PG, PG = pgl (P (130 + i)) := ⟨_, rfl⟩
    obtain ⟨W5, hW5⟩ : ∃ W5, W5 = (wr.alloc (.cells Z64 92)).setCells wr.heap.size 0 PG := ⟨_, rfl⟩
    obtain ⟨t5, k5, r5, z5⟩ := page_new wr (P (130 + i)) W5 (by rw [← hPG]; exact hW5)
    rw [← hPG] at t5 r5 hr0
    have hlP : (Try.prog.info? 92).map (·.size) = some PG.length := by rw [hPG, pgl_len]; exact infoP
    have h1P : PG.toArray.all (·.oneCell') = true := by rw [hPG]; exact all_oneCell_toArray (pgl_one _)
    have HP5 : Hid ((wr.alloc (.cells Z64 92)).there wr.heap.size 0 PG.toArray.size ∧ (Try.prog.info? 92).map (·.size) = some PG.length ∧ PG.toArray.all (·.oneCell') = true ∧ W5 = (wr.alloc (.cells Z64 92)).setCells wr.heap.size 0 PG ∧ W5.rangeAt wr.heap.size 0 PG ∧ wr.rangeAt dv (8320 + i * 64) PG) := (⟨t5, hlP, h1P, hW5, r5, hr0⟩ : _ ∧ _)
    obtain ⟨PC, hPC⟩ : ∃ PC, PC = il P 130 i := ⟨_, rfl⟩
    have HOW : Hid (W5.ownsRow w.heap.size 5 1 (.slice pl (i * 64) cl) (i * 64) PC ∧ w.heap.size ≤ W5.heap.size ∧ (∀ j u, PG[j]? = some u → W5.cell? ((⟨wr.heap.size, 0, none⟩ : Addr).add j) = some u) ∧ PG.length = 64 * 1 ∧ ∀ u ∈ PG, u.oneCell' = true) := (⟨by rw [hPC]; exact own_keep hro (fun q hq => k5.block q (Nat.zero_le _) (hro.lt q hq).2), Nat.le_trans hkb.size k5.size, fun j u hu => by rw [addr0]; have := r5 j u hu; rw [Nat.zero_add] at this; exact this, by rw [hPG, pgl_len], by rw [hPG]; exact pgl_one _⟩ : _ ∧ _)
    have HNX : Hid (∀ (W8 : World) (g cap : Nat), W8.ownsRow w.heap.size 5 1 (.slice (some ⟨g, 0, none⟩) (i * 64 + 64) cap) (i * 64 + 64) (PC ++ PG) → W5.grownBy W8 (Value.slice pl (i * 64) cl).ownBlock → W8.ownsRow w.heap.size 5 1 (.slice (some ⟨g, 0, none⟩) (i * 64 + 64) cap) ((i + 1) * 64) (il P 130 (i + 1)) ∧ Kb 0 w W8) := (fun W8 g cap h8 g8 => by
      have kw5 := hkb.trans k5
      refine ⟨?_, ⟨by rw [g8.os]; exact kw5.os, by rw [g8.output]; exact kw5.output, Nat.le_trans kw5.size g8.size, fun q h1 h2 => ?_⟩⟩
      · rw [il, ← hPC, ← hPG, Nat.add_mul, Nat.one_mul]
        exact h8
      · have := kw5.size
        exact (g8.block q (by omega) (fun e => by have := (hro.lt q e.symm).1; omega)).trans (kw5.block q h1 h2) : ∀ (W8 : World) (g cap : Nat), _)
    clear hro hkb t5 k5 r5 z5 hlP h1P hW5 hPG hPC hr0 HRG hil
    go_upto_region 6 with (first | (refine wpList_load_mid (by rfl) 92 (.tmp 21) (by rfl) dv (8320 + i * 64) (by first | rfl | simp [Act.eval, Addr.add]) PG _ (show _ ∧ _ ∧ _ ∧ _ ∧ _ ∧ _ from HP5).2.2.2.2.2 und_page rfl (show _ ∧ _ ∧ _ from HP5).2.1 ?_) | (refine wpList_store_mid (by rfl) 92 (.tmp 8) (.tmp 22) (by rfl) wr.heap.size 0 PG.toArray (by rfl) (by rfl) (show _ ∧ _ from HP5).1 (show _ ∧ _ ∧ _ from HP5).2.1 (show _ ∧ _ ∧ _ ∧ _ from HP5).2.2.1 ?_))
    generalize hwg : World.setCells _ _ _ _ = wg
    have hwe : wg = W5 := hwg.symm.trans (show _ ∧ _ ∧ _ ∧ _ ∧ _ from HP5).2.2.2.1.symm
    rw [hwe]
    clear hwg hwe HP5
    go_wp2_with (refine wpList_append_lies _ (by rfl) (.tmp 23) (.tmp 24) 26 (by rfl) w.heap.size 5 i1 (.int .u8 0) 1 1 Try.underlying26 HI1 hz0 hz1 hz2 rfl (by decide) (.slice pl (i * 64) cl) (i * 64) PC (by rfl) (show _ ∧ _ from HOW).1 ⟨wr.heap.size, 0, none⟩ 64 64 PG (by rfl) (show _ ∧ _ ∧ _ ∧ _ from HOW).2.2.2.1 (show _ ∧ _ ∧ _ from HOW).2.2.1 (show _ ∧ _ ∧ _ ∧ _ from HOW).2.2.2.2 (by decide) (by unfold maxLen; omega) (by omega) (show _ ∧ _ ∧ _ from HOW).2.1 _ rfl ?_; intro g' cap' w8 hown1 hgrow1 hat hlt; have HN := (show ∀ (W8 : World) (g cap : Nat), _ from HNX) w8 g' cap' hown1 hgrow1; clear hown1 hgrow1 hat hlt)
    go_roundw
    case rel => exact ⟨i + 1, _, rfl, by go_num, by omega, by have e : (i + 1) * 64 = i * 64 + 64 := by omega
                                                              rw [e] at HN ⊢
                                                              exact HN⟩
    case measure => simp [intOf]; omega
end Go.Proofs.Ytaggciimacanbaa.Fo

namespace Go.Proofs.Ytaggciimacanbaa.Fo
open Go.ChangeShapes Go.WideShapes Go.ChangeAt Go.RowKit
set_option linter.unusedVariables false
set_option maxRecDepth 100000
set_option linter.unusedSimpArgs false
/-- a kept image as an answer -/
def KiP (ok : Bool) (G sl : Int) (N : Nat) (A : Nat → Int) (w : World) (e : Ending) (w' : World) : Prop := ∃ v g, e = .returned (.agg #[.bool ok, .int .i64 G, .int .i64 sl, v]) ∧ OwnR w' v g N (ub A) ∧ (0 < N → w.heap.size ≤ g ∧ g < w'.heap.size) ∧ Kb 0 w w'
theorem rd_nil2 {A : Nat → Int} (w : World) : OwnR w (.slice none 0 0) 0 0 (ub A) := ⟨⟨none, 0, rfl, fun h => by omega⟩, fun i hi => by omega, fun h => by omega⟩
set_option maxHeartbeats 16000000 in
theorem im_kept_a0 {w0 : World} {dv : Nat} {P : Nat → Nat → Int} {m : Nat} {Q : Nat → Ed} {vw : Value} {y1 y2 y3 : Nat} (w : World) (h : Dr w0 dv P m Q vw w) (hr : R8 (P 0)) (hy : Nums (m8 (P 0)) y1 y2 y3) (hno : ¬ Hd (P 0) (wrap64 (y1 : Int)) (wrap64 (y2 : Int)) (wrap64 (y3 : Int))) :
    Calls Try.prog 63 #[.pointer (some ⟨dv, 0, none⟩), .int .i64 0] w (KiP false 0 0 0 (fun _ => 0) w) := by
  obtain ⟨w1, hw1⟩ : ∃ w1, w1 = w.alloc (.cells #[.bool false, .int .i64 0, .int .i64 0, .slice none 0 0] 51) := ⟨_, rfl⟩
  have k1 : Kb 0 w w1 := by rw [hw1]; exact kb_alloc _ _ _
  have b1 : w1.heap[w.heap.size]? = some (.cells #[.bool false, .int .i64 0, .int .i64 0, .slice none 0 0] 51 (0, 0)) := by rw [hw1]; exact alloc_new _ _ _
  have z1 : w1.heap.size = w.heap.size + 1 := by rw [hw1]; exact World.size_alloc _ _
  have HW1 : Hid (w1 = w.alloc (.cells #[.bool false, .int .i64 0, .int .i64 0, .slice none 0 0] 51)) := hw1
  have HH := im_dhead (y1 := y1) (y2 := y2) (y3 := y3) 0 w1 (h.keep k1) (by decide) hr hy
  rw [show ((0 : Nat) : Int) = (0 : Int) from rfl] at HH
  have HIG : Hid (∀ W, Kb 0 w W → Calls Try.prog 99 #[.pointer (some ⟨dv, 0, none⟩), .int .i64 0] W fun e w' => ∃ g c, e = .returned (.slice (some ⟨g, 0, none⟩) 8192 c) ∧ OwnR w' (.slice (some ⟨g, 0, none⟩) 8192 c) g 8192 (ub (img P 2)) ∧ W.heap.size ≤ g ∧ g < w'.heap.size ∧ 8192 ≤ c ∧ Kb 0 W w') := (fun W k => im_image0 W (h.keep k) : ∀ W, _)
  have HB1 : Hid (Kb 0 w w1 ∧ w1.heap[w.heap.size]? = some (.cells #[.bool false, .int .i64 0, .int .i64 0, .slice none 0 0] 51 (0, 0)) ∧ w1.heap.size = w.heap.size + 1) := (⟨k1, b1, z1⟩ : _ ∧ _)
  rw [hdv_f hno] at HH
  obtain ⟨LN, hLN⟩ : ∃ LN : Nat, LN = 0 := ⟨_, rfl⟩
  have HV : Hid ((Value.int .i64 0) = .int .i64 (LN : Int)) := (by rw [hLN]; rfl : (Value.int .i64 0) = .int .i64 (LN : Int))
  have hLI : (LN : Int) ≤ 8192 := by omega
  have hLL : LN ≤ 8192 := by omega
  clear hw1 k1 b1 z1 h hr hy hno hLN
  go_enter Try.func63, Try.ntmps63
  go_upto_region 1 with fail
  rw [← (show w1 = _ from HW1)]
  clear HW1
  go_wp2_with fail
  refine HH.mono ?_
  rintro e wA ⟨rfl, kA⟩
  obtain ⟨k1, b1, z1⟩ := (show _ ∧ _ ∧ _ from HB1)
  obtain ⟨P5, hP5⟩ : ∃ P5, P5 = wA.heap.size := ⟨_, rfl⟩
  obtain ⟨w2, hw2⟩ : ∃ w2, w2 = wA.alloc (.cells #[.bool false, .int .i64 0, .int .i64 0, .int .i64 0] 46) := ⟨_, rfl⟩
  have kA2 : Kb 0 wA w2 := by rw [hw2]; exact kb_alloc _ _ _
  have b5 : w2.heap[P5]? = some (.cells #[.bool false, .int .i64 0, .int .i64 0, .int .i64 0] 46 (0, 0)) := by rw [hw2, hP5]; exact alloc_new _ _ _
  have z2 : w2.heap.size = P5 + 1 := by rw [hw2, World.size_alloc, hP5]
  have k12 := kA.trans kA2
  have zz := k12.size
  have h2c : w2.cell? ⟨P5, 2, none⟩ = some (.int .i64 (LN : Int)) := by rw [← (show (Value.int .i64 0) = .int .i64 (LN : Int) from HV)]; exact cell_of b5 rfl
  have HB : Hid (w2.heap[w.heap.size]? = some (.cells #[.bool false, .int .i64 0, .int .i64 0, .slice none 0 0] 51 (0, 0)) ∧ w.heap.size < w2.heap.size) := (⟨(k12.block _ (Nat.zero_le _) (by omega)).trans b1, by omega⟩ : _ ∧ _)
  have HK2 : Hid (Kb 0 w w2 ∧ w2.heap[P5]? = some (.cells #[.bool false, .int .i64 0, .int .i64 0, .int .i64 0] 46 (0, 0)) ∧ P5 < w2.heap.size) := (⟨k1.trans k12, b5, by omega⟩ : _ ∧ _)
  have HW2 : Hid (w2 = wA.alloc (.cells #[.bool false, .int .i64 0, .int .i64 0, .int .i64 0] 46) ∧ P5 = wA.heap.size) := (⟨hw2, hP5⟩ : _ ∧ _)
  clear HH kA k1 b1 z1 hP5 hw2 kA2 b5 z2 k12 zz HB1
  go_upto_region 2 with fail
  rw [← (show _ ∧ _ from HW2).1, ← (show _ ∧ _ from HW2).2]
  clear HW2
  refine AnyL.region (S := fun W' => W'.cell? ⟨P5, 2, none⟩ = some (.int .i64 (LN : Int))) (z := 100) (by kernel_rfl) ?_
  have hS0 : (fun W' : World => W'.cell? ⟨P5, 2, none⟩ = some (.int .i64 (LN : Int))) w2.drew := h2c
  have HK20 : Hid (Kb 0 w2 w2.drew) := (Kb.drewN (Kb.refl _ _) 1 : Kb 0 w2 w2.drew)
  have HKD : Hid (Kb 0 w w2.drew) := (show _ ∧ _ from HK2).1.trans (Kb.drewN (Kb.refl _ _) 1)
  obtain ⟨W0, hW0⟩ : ∃ W0, W0 = w2.drew := ⟨_, rfl⟩
  rw [← hW0] at HKD HK20 hS0 ⊢
  clear hW0 h2c
  refine AnyL.takeAt 0 (.pointer (some ⟨dv, 0, none⟩)) rfl (by kernel_rfl) (by kernel_rfl) (by kernel_rfl) (by kernel_rfl) (fun _ _ _ h => h) rfl hS0 (by intro W hW; go_simp) ?_
  try simp only [Act.put, List.setIfInBounds_toArray, List.set_cons_zero, List.set_cons_succ]
  refine AnyL.takeAt 1 (.int .i64 0) rfl (by kernel_rfl) (by kernel_rfl) (by kernel_rfl) (by kernel_rfl) (fun _ _ _ h => h) rfl hS0 (by intro W hW; go_simp) ?_
  try simp only [Act.put, List.setIfInBounds_toArray, List.set_cons_zero, List.set_cons_succ]
  refine AnyL.takeAt 3 (.pointer (some ⟨P5, 2, none⟩)) rfl (by kernel_rfl) (by kernel_rfl) (by kernel_rfl) (by kernel_rfl) (fun _ _ _ h => h) rfl hS0 (by intro W hW; go_simp) ?_
  try simp only [Act.put, List.setIfInBounds_toArray, List.set_cons_zero, List.set_cons_succ]
  refine AnyL.takeAt 4 (.int .i64 (LN : Int)) rfl (by kernel_rfl) (by kernel_rfl) (by kernel_rfl) (by kernel_rfl) (fun _ _ _ h => h) rfl hS0 (by intro W hW; go_simp) ?_
  try simp only [Act.put, List.setIfInBounds_toArray, List.set_cons_zero, List.set_cons_succ]
  refine AnyL.oneAt 2 rfl (by kernel_rfl) rfl ?_
  intro K hK
  go_simp
  refine ((show ∀ W, Kb 0 w W → _ from HIG) W0 HKD).mono ?_
  rintro e W2 ⟨g, c, rfl, o2, hg1, hg2, hc, k2⟩
  have hS2 : W2.cell? ⟨P5, 2, none⟩ = some (.int .i64 (LN : Int)) := k2.cell hS0
  have H2 : Hid (OwnR W2 (.slice (some ⟨g, 0, none⟩) 8192 c) g 8192 (ub (img P 2)) ∧ w.heap.size < g ∧ g < W2.heap.size ∧ 8192 ≤ c ∧ Kb 0 w2 W2) := (⟨o2, by have := (show Kb 0 w2 W0 from HK20).size; have := (show _ ∧ _ from HB).2; omega, hg2, hc, (show Kb 0 w2 W0 from HK20).trans k2⟩ : _ ∧ _)
  have hcI : (8192 : Int) ≤ (c : Int) := by omega
  clear o2 hg1 hg2 k2 HKD HIG hS0 HK20
  refine hK.out _ _ (fun _ => hS2) ?_
  clear hK K
  try simp only [Act.put, List.setIfInBounds_toArray, List.set_cons_zero, List.set_cons_succ]
  refine AnyL.takeAt 5 (.slice (some ⟨g, 0, none⟩) LN c) rfl (by kernel_rfl) (by kernel_rfl) (by kernel_rfl) (by kernel_rfl) (fun _ _ _ h => h) rfl hS2 (by intro W hW; go_simp; intro hx; exfalso; omega) ?_
  try simp only [Act.put, List.setIfInBounds_toArray, List.set_cons_zero, List.set_cons_succ]
  refine AnyL.takeAt 6 (.slice (some ⟨g, 0, none⟩) LN c) rfl (by kernel_rfl) (by kernel_rfl) (by kernel_rfl) (by kernel_rfl) (fun _ _ _ h => h) rfl hS2 (by intro W hW; go_simp) ?_
  try simp only [Act.put, List.setIfInBounds_toArray, List.set_cons_zero, List.set_cons_succ]
  refine AnyL.done (by kernel_rfl) ?_
  obtain ⟨o2, hg1, hg2, hc2, k22⟩ := (show _ ∧ _ ∧ _ ∧ _ ∧ _ from H2)
  have b25 := (k22.block _ (Nat.zero_le _) (show _ ∧ _ ∧ _ from HK2).2.2).trans (show _ ∧ _ ∧ _ from HK2).2.1
  have e0 : W2.cell? ⟨P5, 0, none⟩ = some (.bool false) := cell_of b25 rfl
  have e3 : W2.cell? ⟨P5, 3, none⟩ = some (.int .i64 0) := cell_of b25 rfl
  have HE : Hid (Kb 0 w W2 ∧ Kb 0 w2 W2) := (⟨(show _ ∧ _ ∧ _ from HK2).1.trans k22, k22⟩ : _ ∧ _)
  clear o2 hg1 hg2 hc2 k22 b25 H2 HK2 hS2
  go_upto_region 3 with fail
  go_quiet (fail)
  all_goals
    generalize hx1 : World.drewN W2 _ = x1
    have k1 : Kb 0 W2 x1 := by rw [← hx1]; exact Kb.drewN (Kb.refl _ _) _
    have k2x := (show _ ∧ _ from HE).2.trans k1
    have kwx := (show _ ∧ _ from HE).1.trans k1
    clear hx1
    obtain ⟨b0, z0⟩ := (show _ ∧ _ from HB)
    have bq := (k2x.block _ (Nat.zero_le _) z0).trans b0
    obtain ⟨WF, hWF, bF, zF⟩ := four_set (.bool false) (.int .i64 0) (.int .i64 0) (.slice none 0 0) bq
    have f0 : WF.cell? ⟨w.heap.size, 0, none⟩ = some (.bool false) := cell_of bF rfl
    have f1 : WF.cell? ⟨w.heap.size, 1, none⟩ = some (.int .i64 0) := cell_of bF rfl
    have f2 : WF.cell? ⟨w.heap.size, 2, none⟩ = some (.int .i64 0) := cell_of bF rfl
    have f3 : WF.cell? ⟨w.heap.size, 3, none⟩ = some (.slice none 0 0) := cell_of bF rfl
    have a0 : x1.cell? ⟨w.heap.size, 0, none⟩ = some (.bool false) := cell_of bq rfl
    have a1 : x1.cell? ⟨w.heap.size, 1, none⟩ = some (.int .i64 0) := cell_of bq rfl
    have a2 : x1.cell? ⟨w.heap.size, 2, none⟩ = some (.int .i64 0) := cell_of bq rfl
    have a3 : x1.cell? ⟨w.heap.size, 3, none⟩ = some (.slice none 0 0) := cell_of bq rfl
    have fy : ∀ j, x1.frozen? ⟨w.heap.size, j, none⟩ = false := fun j => frozen_of bq
    have HF : Hid (Kb 0 w WF) := zF.kb kwx (Nat.le_refl _)
    have HWF : Hid (WF = _) := hWF
    clear hWF bF zF bq HB b0 z0 HE e0 e3 k2x kwx k1
    go_wp2_with fail
    rw [← (show WF = _ from HWF)]
    clear HWF
    refine bodyPost_ret (by simp [results, Try.results63, go_sem, f0, f1, f2, f3]; rfl) rfl ?_
    exact ⟨_, 0, rfl, rd_nil2 _, fun h => by omega, HF⟩
set_option maxHeartbeats 16000000 in
theorem im_kept_b0 {w0 : World} {dv : Nat} {P : Nat → Nat → Int} {m : Nat} {Q : Nat → Ed} {vw : Value} {y1 y2 y3 : Nat} (w : World) (h : Dr w0 dv P m Q vw w) (hr : R8 (P 0)) (hy : Nums (m8 (P 0)) y1 y2 y3) {G S : Int} {LN : Nat} (hG : wrap64 (y1 : Int) = G) (hL : wrap64 (y2 : Int) = (LN : Int)) (hS : wrap64 (y3 : Int) = S) (hd : Hd (P 0) (wrap64 (y1 : Int)) (wrap64 (y2 : Int)) (wrap64 (y3 : Int))) (hLL : LN ≤ 8192) (hb : ∀ j, j < 8192 → 0 ≤ img P 2 j ∧ img P 2 j ≤ 255) (hsum : ¬ sgz (img P 2) LN = S) :
    Calls Try.prog 63 #[.pointer (some ⟨dv, 0, none⟩), .int .i64 0] w (KiP false 0 0 0 (fun _ => 0) w) := by
  obtain ⟨w1, hw1⟩ : ∃ w1, w1 = w.alloc (.cells #[.bool false, .int .i64 0, .int .i64 0, .slice none 0 0] 51) := ⟨_, rfl⟩
  have k1 : Kb 0 w w1 := by rw [hw1]; exact kb_alloc _ _ _
  have b1 : w1.heap[w.heap.size]? = some (.cells #[.bool false, .int .i64 0, .int .i64 0, .slice none 0 0] 51 (0, 0)) := by rw [hw1]; exact alloc_new _ _ _
  have z1 : w1.heap.size = w.heap.size + 1 := by rw [hw1]; exact World.size_alloc _ _
  have HW1 : Hid (w1 = w.alloc (.cells #[.bool false, .int .i64 0, .int .i64 0, .slice none 0 0] 51)) := hw1
  have HH := im_dhead (y1 := y1) (y2 := y2) (y3 := y3) 0 w1 (h.keep k1) (by decide) hr hy
  rw [show ((0 : Nat) : Int) = (0 : Int) from rfl] at HH
  have HIG : Hid (∀ W, Kb 0 w W → Calls Try.prog 99 #[.pointer (some ⟨dv, 0, none⟩), .int .i64 0] W fun e w' => ∃ g c, e = .returned (.slice (some ⟨g, 0, none⟩) 8192 c) ∧ OwnR w' (.slice (some ⟨g, 0, none⟩) 8192 c) g 8192 (ub (img P 2)) ∧ W.heap.size ≤ g ∧ g < w'.heap.size ∧ 8192 ≤ c ∧ Kb 0 W w') := (fun W k => im_image0 W (h.keep k) : ∀ W, _)
  have HB1 : Hid (Kb 0 w w1 ∧ w1.heap[w.heap.size]? = some (.cells #[.bool false, .int .i64 0, .int .i64 0, .slice none 0 0] 51 (0, 0)) ∧ w1.heap.size = w.heap.size + 1) := (⟨k1, b1, z1⟩ : _ ∧ _)
  rw [hdv_t hd, hG, hL, hS] at HH
  have hLI : (LN : Int) ≤ 8192 := by omega
  have HSM : Hid (∀ (W : World) (g c : Nat), OwnR W (.slice (some ⟨g, 0, none⟩) 8192 c) g 8192 (ub (img P 2)) → 8192 ≤ c → ∀ W', W'.heap = W.heap → W'.os = W.os → W'.output = W.output → Calls Try.prog 72 #[.slice (some ⟨g, 0, none⟩) LN c] W' fun e w' => e = .returned (.int .i64 (sgz (img P 2) LN)) ∧ Kb 0 W w') := (fun W g c o hc W' e1 e2 e3 => by
    have kk : Kb 0 W W' := ⟨e2, e3, by rw [e1]; exact Nat.le_refl _, fun k _ _ => by rw [e1]⟩
    have hrow : RowV W' (.slice (some ⟨g, 0, none⟩) LN c) LN (fun i => .int .u8 (img P 2 i)) := ⟨_, _, rfl, fun _ => ⟨_, rfl, by omega, fun i hi => by rw [addr0]; exact kk.cell (o.cell i (by omega))⟩⟩
    refine (im_sumof W' hrow (by omega) (fun i hi => hb i (by omega))).mono ?_
    rintro e w' ⟨q1, q2⟩
    exact ⟨q1, kk.trans q2⟩ : ∀ (W : World) (g c : Nat), _)
  obtain ⟨SM, hSM⟩ : ∃ SM, SM = sgz (img P 2) LN := ⟨_, rfl⟩
  rw [← hSM] at hsum HSM
  have hs2 : (SM != S) = true := by simp [hsum]
  clear hw1 k1 b1 z1 h hr hy hG hL hS hd hb hSM
  go_enter Try.func63, Try.ntmps63
  go_upto_region 1 with fail
  rw [← (show w1 = _ from HW1)]
  clear HW1
  go_wp2_with fail
  refine HH.mono ?_
  rintro e wA ⟨rfl, kA⟩
  obtain ⟨k1, b1, z1⟩ := (show _ ∧ _ ∧ _ from HB1)
  obtain ⟨P5, hP5⟩ : ∃ P5, P5 = wA.heap.size := ⟨_, rfl⟩
  obtain ⟨w2, hw2⟩ : ∃ w2, w2 = wA.alloc (.cells #[.bool true, .int .i64 G, .int .i64 (LN : Int), .int .i64 S] 46) := ⟨_, rfl⟩
  have kA2 : Kb 0 wA w2 := by rw [hw2]; exact kb_alloc _ _ _
  have b5 : w2.heap[P5]? = some (.cells #[.bool true, .int .i64 G, .int .i64 (LN : Int), .int .i64 S] 46 (0, 0)) := by rw [hw2, hP5]; exact alloc_new _ _ _
  have z2 : w2.heap.size = P5 + 1 := by rw [hw2, World.size_alloc, hP5]
  have k12 := kA.trans kA2
  have zz := k12.size
  have h2c : w2.cell? ⟨P5, 2, none⟩ = some (.int .i64 (LN : Int)) := cell_of b5 rfl
  have HB : Hid (w2.heap[w.heap.size]? = some (.cells #[.bool false, .int .i64 0, .int .i64 0, .slice none 0 0] 51 (0, 0)) ∧ w.heap.size < w2.heap.size) := (⟨(k12.block _ (Nat.zero_le _) (by omega)).trans b1, by omega⟩ : _ ∧ _)
  have HK2 : Hid (Kb 0 w w2 ∧ w2.heap[P5]? = some (.cells #[.bool true, .int .i64 G, .int .i64 (LN : Int), .int .i64 S] 46 (0, 0)) ∧ P5 < w2.heap.size) := (⟨k1.trans k12, b5, by omega⟩ : _ ∧ _)
  have HW2 : Hid (w2 = wA.alloc (.cells #[.bool true, .int .i64 G, .int .i64 (LN : Int), .int .i64 S] 46) ∧ P5 = wA.heap.size) := (⟨hw2, hP5⟩ : _ ∧ _)
  clear HH kA k1 b1 z1 hP5 hw2 kA2 b5 z2 k12 zz HB1
  go_upto_region 2 with fail
  rw [← (show _ ∧ _ from HW2).1, ← (show _ ∧ _ from HW2).2]
  clear HW2
  refine AnyL.region (S := fun W' => W'.cell? ⟨P5, 2, none⟩ = some (.int .i64 (LN : Int))) (z := 100) (by kernel_rfl) ?_
  have hS0 : (fun W' : World => W'.cell? ⟨P5, 2, none⟩ = some (.int .i64 (LN : Int))) w2.drew := h2c
  have HK20 : Hid (Kb 0 w2 w2.drew) := (Kb.drewN (Kb.refl _ _) 1 : Kb 0 w2 w2.drew)
  have HKD : Hid (Kb 0 w w2.drew) := (show _ ∧ _ from HK2).1.trans (Kb.drewN (Kb.refl _ _) 1)
  obtain ⟨W0, hW0⟩ : ∃ W0, W0 = w2.drew := ⟨_, rfl⟩
  rw [← hW0] at HKD HK20 hS0 ⊢
  clear hW0 h2c
  refine AnyL.takeAt 0 (.pointer (some ⟨dv, 0, none⟩)) rfl (by kernel_rfl) (by kernel_rfl) (by kernel_rfl) (by kernel_rfl) (fun _ _ _ h => h) rfl hS0 (by intro W hW; go_simp) ?_
  try simp only [Act.put, List.setIfInBounds_toArray, List.set_cons_zero, List.set_cons_succ]
  refine AnyL.takeAt 1 (.int .i64 0) rfl (by kernel_rfl) (by kernel_rfl) (by kernel_rfl) (by kernel_rfl) (fun _ _ _ h => h) rfl hS0 (by intro W hW; go_simp) ?_
  try simp only [Act.put, List.setIfInBounds_toArray, List.set_cons_zero, List.set_cons_succ]
  refine AnyL.takeAt 3 (.pointer (some ⟨P5, 2, none⟩)) rfl (by kernel_rfl) (by kernel_rfl) (by kernel_rfl) (by kernel_rfl) (fun _ _ _ h => h) rfl hS0 (by intro W hW; go_simp) ?_
  try simp only [Act.put, List.setIfInBounds_toArray, List.set_cons_zero, List.set_cons_succ]
  refine AnyL.takeAt 4 (.int .i64 (LN : Int)) rfl (by kernel_rfl) (by kernel_rfl) (by kernel_rfl) (by kernel_rfl) (fun _ _ _ h => h) rfl hS0 (by intro W hW; go_simp) ?_
  try simp only [Act.put, List.setIfInBounds_toArray, List.set_cons_zero, List.set_cons_succ]
  refine AnyL.oneAt 2 rfl (by kernel_rfl) rfl ?_
  intro K hK
  go_simp
  refine ((show ∀ W, Kb 0 w W → _ from HIG) W0 HKD).mono ?_
  rintro e W2 ⟨g, c, rfl, o2, hg1, hg2, hc, k2⟩
  have hS2 : W2.cell? ⟨P5, 2, none⟩ = some (.int .i64 (LN : Int)) := k2.cell hS0
  have H2 : Hid (OwnR W2 (.slice (some ⟨g, 0, none⟩) 8192 c) g 8192 (ub (img P 2)) ∧ w.heap.size < g ∧ g < W2.heap.size ∧ 8192 ≤ c ∧ Kb 0 w2 W2) := (⟨o2, by have := (show Kb 0 w2 W0 from HK20).size; have := (show _ ∧ _ from HB).2; omega, hg2, hc, (show Kb 0 w2 W0 from HK20).trans k2⟩ : _ ∧ _)
  have hcI : (8192 : Int) ≤ (c : Int) := by omega
  clear o2 hg1 hg2 k2 HKD HIG hS0 HK20
  refine hK.out _ _ (fun _ => hS2) ?_
  clear hK K
  try simp only [Act.put, List.setIfInBounds_toArray, List.set_cons_zero, List.set_cons_succ]
  refine AnyL.takeAt 5 (.slice (some ⟨g, 0, none⟩) LN c) rfl (by kernel_rfl) (by kernel_rfl) (by kernel_rfl) (by kernel_rfl) (fun _ _ _ h => h) rfl hS2 (by intro W hW; go_simp; intro hx; exfalso; omega) ?_
  try simp only [Act.put, List.setIfInBounds_toArray, List.set_cons_zero, List.set_cons_succ]
  refine AnyL.takeAt 6 (.slice (some ⟨g, 0, none⟩) LN c) rfl (by kernel_rfl) (by kernel_rfl) (by kernel_rfl) (by kernel_rfl) (fun _ _ _ h => h) rfl hS2 (by intro W hW; go_simp) ?_
  try simp only [Act.put, List.setIfInBounds_toArray, List.set_cons_zero, List.set_cons_succ]
  refine AnyL.done (by kernel_rfl) ?_
  obtain ⟨o2, hg1, hg2, hc2, k22⟩ := (show _ ∧ _ ∧ _ ∧ _ ∧ _ from H2)
  have b25 := (k22.block _ (Nat.zero_le _) (show _ ∧ _ ∧ _ from HK2).2.2).trans (show _ ∧ _ ∧ _ from HK2).2.1
  have e0 : ∀ W, Kb 0 W2 W → W.cell? ⟨P5, 0, none⟩ = some (.bool true) := fun W k => k.cell (cell_of b25 rfl)
  have e1 : ∀ W, Kb 0 W2 W → W.cell? ⟨P5, 1, none⟩ = some (.int .i64 G) := fun W k => k.cell (cell_of b25 rfl)
  have e3 : ∀ W, Kb 0 W2 W → W.cell? ⟨P5, 3, none⟩ = some (.int .i64 S) := fun W k => k.cell (cell_of b25 rfl)
  have HEE : Hid (∀ W, Kb 0 W2 W → W.cell? ⟨P5, 0, none⟩ = some (.bool true) ∧ W.cell? ⟨P5, 1, none⟩ = some (.int .i64 G) ∧ W.cell? ⟨P5, 3, none⟩ = some (.int .i64 S)) := (fun W k => ⟨e0 W k, e1 W k, e3 W k⟩ : ∀ W, _)
  have HSC := (show ∀ (W : World) (g c : Nat), _ from HSM) W2 g c o2 hc2
  have HSC2 : Hid (∀ W', W'.heap = W2.heap → W'.os = W2.os → W'.output = W2.output → Calls Try.prog 72 #[.slice (some ⟨g, 0, none⟩) LN c] W' fun e w' => e = .returned (.int .i64 SM) ∧ Kb 0 W2 w') := HSC
  have HE : Hid (Kb 0 w W2 ∧ Kb 0 w2 W2 ∧ OwnR W2 (.slice (some ⟨g, 0, none⟩) 8192 c) g 8192 (ub (img P 2)) ∧ w.heap.size < g ∧ g < W2.heap.size ∧ 8192 ≤ c) := (⟨(show _ ∧ _ ∧ _ from HK2).1.trans k22, k22, o2, hg1, hg2, hc2⟩ : _ ∧ _)
  have a00 := e0 W2 (Kb.refl _ _)
  have a01 := e1 W2 (Kb.refl _ _)
  have a03 := e3 W2 (Kb.refl _ _)
  clear o2 hg1 hg2 hc2 k22 b25 H2 HK2 hS2 e0 e1 e3 HSC HSM
  go_upto_region 3 with fail
  first | (go_region_with (go_at_call 72; refine ((show ∀ W', _ from HSC2) _ (by exact rfl) (by exact rfl) (by exact rfl)).mono ?_; rintro e x1 ⟨rfl, k1⟩; obtain ⟨b00, b01, b03⟩ := (show ∀ W, Kb 0 W2 W → _ from HEE) x1 k1)) | fail
  all_goals
    obtain ⟨q1, q2, q3, q4, q5, q6⟩ := (show _ ∧ _ ∧ _ ∧ _ ∧ _ ∧ _ from HE)
    have k2x := q2.trans k1
    have kwx := q1.trans k1
    obtain ⟨b0, z0⟩ := (show _ ∧ _ from HB)
    have bq := (k2x.block _ (Nat.zero_le _) z0).trans b0
    obtain ⟨WF, hWF, bF, zF⟩ := four_set (.bool false) (.int .i64 0) (.int .i64 0) (.slice none 0 0) bq
    have f0 : WF.cell? ⟨w.heap.size, 0, none⟩ = some (.bool false) := cell_of bF rfl
    have f1 : WF.cell? ⟨w.heap.size, 1, none⟩ = some (.int .i64 0) := cell_of bF rfl
    have f2 : WF.cell? ⟨w.heap.size, 2, none⟩ = some (.int .i64 0) := cell_of bF rfl
    have f3 : WF.cell? ⟨w.heap.size, 3, none⟩ = some (.slice none 0 0) := cell_of bF rfl
    have a0 : x1.cell? ⟨w.heap.size, 0, none⟩ = some (.bool false) := cell_of bq rfl
    have a1 : x1.cell? ⟨w.heap.size, 1, none⟩ = some (.int .i64 0) := cell_of bq rfl
    have a2 : x1.cell? ⟨w.heap.size, 2, none⟩ = some (.int .i64 0) := cell_of bq rfl
    have a3 : x1.cell? ⟨w.heap.size, 3, none⟩ = some (.slice none 0 0) := cell_of bq rfl
    have fy : ∀ j, x1.frozen? ⟨w.heap.size, j, none⟩ = false := fun j => frozen_of bq
    have HF : Hid (Kb 0 w WF) := zF.kb kwx (Nat.le_refl _)
    have HWF : Hid (WF = _) := hWF
    clear hWF bF zF bq HB b0 z0 HE q1 q2 q3 q4 q5 q6 k2x kwx k1 HEE HSC2
    go_wp2_with fail
    rw [← (show WF = _ from HWF)]
    clear HWF
    refine bodyPost_ret (by simp [results, Try.results63, go_sem, f0, f1, f2, f3]; rfl) rfl ?_
    exact ⟨_, 0, rfl, rd_nil2 _, fun h => by omega, HF⟩
set_option maxHeartbeats 16000000 in
theorem im_kept_c0 {w0 : World} {dv : Nat} {P : Nat → Nat → Int} {m : Nat} {Q : Nat → Ed} {vw : Value} {y1 y2 y3 : Nat} (w : World) (h : Dr w0 dv P m Q vw w) (hr : R8 (P 0)) (hy : Nums (m8 (P 0)) y1 y2 y3) {G S : Int} {LN : Nat} (hG : wrap64 (y1 : Int) = G) (hL : wrap64 (y2 : Int) = (LN : Int)) (hS : wrap64 (y3 : Int) = S) (hd : Hd (P 0) (wrap64 (y1 : Int)) (wrap64 (y2 : Int)) (wrap64 (y3 : Int))) (hLL : LN ≤ 8192) (hb : ∀ j, j < 8192 → 0 ≤ img P 2 j ∧ img P 2 j ≤ 255) (hsum : sgz (img P 2) LN = S) :
    Calls Try.prog 63 #[.pointer (some ⟨dv, 0, none⟩), .int .i64 0] w (KiP true G 0 LN (img P 2) w) := by
  obtain ⟨w1, hw1⟩ : ∃ w1, w1 = w.alloc (.cells #[.bool false, .int .i64 0, .int .i64 0, .slice none 0 0] 51) := ⟨_, rfl⟩
  have k1 : Kb 0 w w1 := by rw [hw1]; exact kb_alloc _ _ _
  have b1 : w1.heap[w.heap.size]? = some (.cells #[.bool false, .int .i64 0, .int .i64 0, .slice none 0 0] 51 (0, 0)) := by rw [hw1]; exact alloc_new _ _ _
  have z1 : w1.heap.size = w.heap.size + 1 := by rw [hw1]; exact World.size_alloc _ _
  have HW1 : Hid (w1 = w.alloc (.cells #[.bool false, .int .i64 0, .int .i64 0, .slice none 0 0] 51)) := hw1
  have HH := im_dhead (y1 := y1) (y2 := y2) (y3 := y3) 0 w1 (h.keep k1) (by decide) hr hy
  rw [show ((0 : Nat) : Int) = (0 : Int) from rfl] at HH
  have HIG : Hid (∀ W, Kb 0 w W → Calls Try.prog 99 #[.pointer (some ⟨dv, 0, none⟩), .int .i64 0] W fun e w' => ∃ g c, e = .returned (.slice (some ⟨g, 0, none⟩) 8192 c) ∧ OwnR w' (.slice (some ⟨g, 0, none⟩) 8192 c) g 8192 (ub (img P 2)) ∧ W.heap.size ≤ g ∧ g < w'.heap.size ∧ 8192 ≤ c ∧ Kb 0 W w') := (fun W k => im_image0 W (h.keep k) : ∀ W, _)
  have HB1 : Hid (Kb 0 w w1 ∧ w1.heap[w.heap.size]? = some (.cells #[.bool false, .int .i64 0, .int .i64 0, .slice none 0 0] 51 (0, 0)) ∧ w1.heap.size = w.heap.size + 1) := (⟨k1, b1, z1⟩ : _ ∧ _)
  rw [hdv_t hd, hG, hL, hS] at HH
  have hLI : (LN : Int) ≤ 8192 := by omega
  have HSM : Hid (∀ (W : World) (g c : Nat), OwnR W (.slice (some ⟨g, 0, none⟩) 8192 c) g 8192 (ub (img P 2)) → 8192 ≤ c → ∀ W', W'.heap = W.heap → W'.os = W.os → W'.output = W.output → Calls Try.prog 72 #[.slice (some ⟨g, 0, none⟩) LN c] W' fun e w' => e = .returned (.int .i64 (sgz (img P 2) LN)) ∧ Kb 0 W w') := (fun W g c o hc W' e1 e2 e3 => by
    have kk : Kb 0 W W' := ⟨e2, e3, by rw [e1]; exact Nat.le_refl _, fun k _ _ => by rw [e1]⟩
    have hrow : RowV W' (.slice (some ⟨g, 0, none⟩) LN c) LN (fun i => .int .u8 (img P 2 i)) := ⟨_, _, rfl, fun _ => ⟨_, rfl, by omega, fun i hi => by rw [addr0]; exact kk.cell (o.cell i (by omega))⟩⟩
    refine (im_sumof W' hrow (by omega) (fun i hi => hb i (by omega))).mono ?_
    rintro e w' ⟨q1, q2⟩
    exact ⟨q1, kk.trans q2⟩ : ∀ (W : World) (g c : Nat), _)
  obtain ⟨SM, hSM⟩ : ∃ SM, SM = sgz (img P 2) LN := ⟨_, rfl⟩
  rw [← hSM] at hsum HSM
  have hs2 : (SM != S) = false := by simp [hsum]
  clear hw1 k1 b1 z1 h hr hy hG hL hS hd hb hSM
  go_enter Try.func63, Try.ntmps63
  go_upto_region 1 with fail
  rw [← (show w1 = _ from HW1)]
  clear HW1
  go_wp2_with fail
  refine HH.mono ?_
  rintro e wA ⟨rfl, kA⟩
  obtain ⟨k1, b1, z1⟩ := (show _ ∧ _ ∧ _ from HB1)
  obtain ⟨P5, hP5⟩ : ∃ P5, P5 = wA.heap.size := ⟨_, rfl⟩
  obtain ⟨w2, hw2⟩ : ∃ w2, w2 = wA.alloc (.cells #[.bool true, .int .i64 G, .int .i64 (LN : Int), .int .i64 S] 46) := ⟨_, rfl⟩
  have kA2 : Kb 0 wA w2 := by rw [hw2]; exact kb_alloc _ _ _
  have b5 : w2.heap[P5]? = some (.cells #[.bool true, .int .i64 G, .int .i64 (LN : Int), .int .i64 S] 46 (0, 0)) := by rw [hw2, hP5]; exact alloc_new _ _ _
  have z2 : w2.heap.size = P5 + 1 := by rw [hw2, World.size_alloc, hP5]
  have k12 := kA.trans kA2
  have zz := k12.size
  have h2c : w2.cell? ⟨P5, 2, none⟩ = some (.int .i64 (LN : Int)) := cell_of b5 rfl
  have HB : Hid (w2.heap[w.heap.size]? = some (.cells #[.bool false, .int .i64 0, .int .i64 0, .slice none 0 0] 51 (0, 0)) ∧ w.heap.size < w2.heap.size) := (⟨(k12.block _ (Nat.zero_le _) (by omega)).trans b1, by omega⟩ : _ ∧ _)
  have HK2 : Hid (Kb 0 w w2 ∧ w2.heap[P5]? = some (.cells #[.bool true, .int .i64 G, .int .i64 (LN : Int), .int .i64 S] 46 (0, 0)) ∧ P5 < w2.heap.size) := (⟨k1.trans k12, b5, by omega⟩ : _ ∧ _)
  have HW2 : Hid (w2 = wA.alloc (.cells #[.bool true, .int .i64 G, .int .i64 (LN : Int), .int .i64 S] 46) ∧ P5 = wA.heap.size) := (⟨hw2, hP5⟩ : _ ∧ _)
  clear HH kA k1 b1 z1 hP5 hw2 kA2 b5 z2 k12 zz HB1
  go_upto_region 2 with fail
  rw [← (show _ ∧ _ from HW2).1, ← (show _ ∧ _ from HW2).2]
  clear HW2
  refine AnyL.region (S := fun W' => W'.cell? ⟨P5, 2, none⟩ = some (.int .i64 (LN : Int))) (z := 100) (by kernel_rfl) ?_
  have hS0 : (fun W' : World => W'.cell? ⟨P5, 2, none⟩ = some (.int .i64 (LN : Int))) w2.drew := h2c
  have HK20 : Hid (Kb 0 w2 w2.drew) := (Kb.drewN (Kb.refl _ _) 1 : Kb 0 w2 w2.drew)
  have HKD : Hid (Kb 0 w w2.drew) := (show _ ∧ _ from HK2).1.trans (Kb.drewN (Kb.refl _ _) 1)
  obtain ⟨W0, hW0⟩ : ∃ W0, W0 = w2.drew := ⟨_, rfl⟩
  rw [← hW0] at HKD HK20 hS0 ⊢
  clear hW0 h2c
  refine AnyL.takeAt 0 (.pointer (some ⟨dv, 0, none⟩)) rfl (by kernel_rfl) (by kernel_rfl) (by kernel_rfl) (by kernel_rfl) (fun _ _ _ h => h) rfl hS0 (by intro W hW; go_simp) ?_
  try simp only [Act.put, List.setIfInBounds_toArray, List.set_cons_zero, List.set_cons_succ]
  refine AnyL.takeAt 1 (.int .i64 0) rfl (by kernel_rfl) (by kernel_rfl) (by kernel_rfl) (by kernel_rfl) (fun _ _ _ h => h) rfl hS0 (by intro W hW; go_simp) ?_
  try simp only [Act.put, List.setIfInBounds_toArray, List.set_cons_zero, List.set_cons_succ]
  refine AnyL.takeAt 3 (.pointer (some ⟨P5, 2, none⟩)) rfl (by kernel_rfl) (by kernel_rfl) (by kernel_rfl) (by kernel_rfl) (fun _ _ _ h => h) rfl hS0 (by intro W hW; go_simp) ?_
  try simp only [Act.put, List.setIfInBounds_toArray, List.set_cons_zero, List.set_cons_succ]
  refine AnyL.takeAt 4 (.int .i64 (LN : Int)) rfl (by kernel_rfl) (by kernel_rfl) (by kernel_rfl) (by kernel_rfl) (fun _ _ _ h => h) rfl hS0 (by intro W hW; go_simp) ?_
  try simp only [Act.put, List.setIfInBounds_toArray, List.set_cons_zero, List.set_cons_succ]
  refine AnyL.oneAt 2 rfl (by kernel_rfl) rfl ?_
  intro K hK
  go_simp
  refine ((show ∀ W, Kb 0 w W → _ from HIG) W0 HKD).mono ?_
  rintro e W2 ⟨g, c, rfl, o2, hg1, hg2, hc, k2⟩
  have hS2 : W2.cell? ⟨P5, 2, none⟩ = some (.int .i64 (LN : Int)) := k2.cell hS0
  have H2 : Hid (OwnR W2 (.slice (some ⟨g, 0, none⟩) 8192 c) g 8192 (ub (img P 2)) ∧ w.heap.size < g ∧ g < W2.heap.size ∧ 8192 ≤ c ∧ Kb 0 w2 W2) := (⟨o2, by have := (show Kb 0 w2 W0 from HK20).size; have := (show _ ∧ _ from HB).2; omega, hg2, hc, (show Kb 0 w2 W0 from HK20).trans k2⟩ : _ ∧ _)
  have hcI : (8192 : Int) ≤ (c : Int) := by omega
  clear o2 hg1 hg2 k2 HKD HIG hS0 HK20
  refine hK.out _ _ (fun _ => hS2) ?_
  clear hK K
  try simp only [Act.put, List.setIfInBounds_toArray, List.set_cons_zero, List.set_cons_succ]
  refine AnyL.takeAt 5 (.slice (some ⟨g, 0, none⟩) LN c) rfl (by kernel_rfl) (by kernel_rfl) (by kernel_rfl) (by kernel_rfl) (fun _ _ _ h => h) rfl hS2 (by intro W hW; go_simp; intro hx; exfalso; omega) ?_
  try simp only [Act.put, List.setIfInBounds_toArray, List.set_cons_zero, List.set_cons_succ]
  refine AnyL.takeAt 6 (.slice (some ⟨g, 0, none⟩) LN c) rfl (by kernel_rfl) (by kernel_rfl) (by kernel_rfl) (by kernel_rfl) (fun _ _ _ h => h) rfl hS2 (by intro W hW; go_simp) ?_
  try simp only [Act.put, List.setIfInBounds_toArray, List.set_cons_zero, List.set_cons_succ]
  refine AnyL.done (by kernel_rfl) ?_
  obtain ⟨o2, hg1, hg2, hc2, k22⟩ := (show _ ∧ _ ∧ _ ∧ _ ∧ _ from H2)
  have b25 := (k22.block _ (Nat.zero_le _) (show _ ∧ _ ∧ _ from HK2).2.2).trans (show _ ∧ _ ∧ _ from HK2).2.1
  have e0 : ∀ W, Kb 0 W2 W → W.cell? ⟨P5, 0, none⟩ = some (.bool true) := fun W k => k.cell (cell_of b25 rfl)
  have e1 : ∀ W, Kb 0 W2 W → W.cell? ⟨P5, 1, none⟩ = some (.int .i64 G) := fun W k => k.cell (cell_of b25 rfl)
  have e3 : ∀ W, Kb 0 W2 W → W.cell? ⟨P5, 3, none⟩ = some (.int .i64 S) := fun W k => k.cell (cell_of b25 rfl)
  have HEE : Hid (∀ W, Kb 0 W2 W → W.cell? ⟨P5, 0, none⟩ = some (.bool true) ∧ W.cell? ⟨P5, 1, none⟩ = some (.int .i64 G) ∧ W.cell? ⟨P5, 3, none⟩ = some (.int .i64 S)) := (fun W k => ⟨e0 W k, e1 W k, e3 W k⟩ : ∀ W, _)
  have HSC := (show ∀ (W : World) (g c : Nat), _ from HSM) W2 g c o2 hc2
  have HSC2 : Hid (∀ W', W'.heap = W2.heap → W'.os = W2.os → W'.output = W2.output → Calls Try.prog 72 #[.slice (some ⟨g, 0, none⟩) LN c] W' fun e w' => e = .returned (.int .i64 SM) ∧ Kb 0 W2 w') := HSC
  have HE : Hid (Kb 0 w W2 ∧ Kb 0 w2 W2 ∧ OwnR W2 (.slice (some ⟨g, 0, none⟩) 8192 c) g 8192 (ub (img P 2)) ∧ w.heap.size < g ∧ g < W2.heap.size ∧ 8192 ≤ c) := (⟨(show _ ∧ _ ∧ _ from HK2).1.trans k22, k22, o2, hg1, hg2, hc2⟩ : _ ∧ _)
  have a00 := e0 W2 (Kb.refl _ _)
  have a01 := e1 W2 (Kb.refl _ _)
  have a03 := e3 W2 (Kb.refl _ _)
  clear o2 hg1 hg2 hc2 k22 b25 H2 HK2 hS2 e0 e1 e3 HSC HSM
  go_upto_region 3 with fail
  first | (go_region_with (go_at_call 72; refine ((show ∀ W', _ from HSC2) _ (by exact rfl) (by exact rfl) (by exact rfl)).mono ?_; rintro e x1 ⟨rfl, k1⟩; obtain ⟨b00, b01, b03⟩ := (show ∀ W, Kb 0 W2 W → _ from HEE) x1 k1)) | fail
  all_goals
    obtain ⟨q1, q2, q3, q4, q5, q6⟩ := (show _ ∧ _ ∧ _ ∧ _ ∧ _ ∧ _ from HE)
    have k2x := q2.trans k1
    have kwx := q1.trans k1
    have ox : OwnR x1 (.slice (some ⟨g, 0, none⟩) LN c) g LN (ub (img P 2)) := ⟨⟨_, _, rfl, fun _ => ⟨rfl, by omega⟩⟩, fun i hi => k1.cell (q3.cell i (by omega)), fun _ j => (World.frozen?_of_block (k1.block g (Nat.zero_le _) q5)).trans (q3.fz (by omega) j)⟩
    have zx := k1.size
    obtain ⟨b0, z0⟩ := (show _ ∧ _ from HB)
    have bq := (k2x.block _ (Nat.zero_le _) z0).trans b0
    obtain ⟨WF, hWF, bF, zF⟩ := four_set (.bool true) (.int .i64 G) (.int .i64 0) (.slice (some ⟨g, 0, none⟩) LN c) bq
    have f0 : WF.cell? ⟨w.heap.size, 0, none⟩ = some (.bool true) := cell_of bF rfl
    have f1 : WF.cell? ⟨w.heap.size, 1, none⟩ = some (.int .i64 G) := cell_of bF rfl
    have f2 : WF.cell? ⟨w.heap.size, 2, none⟩ = some (.int .i64 0) := cell_of bF rfl
    have f3 : WF.cell? ⟨w.heap.size, 3, none⟩ = some (.slice (some ⟨g, 0, none⟩) LN c) := cell_of bF rfl
    have a0 : x1.cell? ⟨w.heap.size, 0, none⟩ = some (.bool false) := cell_of bq rfl
    have a1 : x1.cell? ⟨w.heap.size, 1, none⟩ = some (.int .i64 0) := cell_of bq rfl
    have a2 : x1.cell? ⟨w.heap.size, 2, none⟩ = some (.int .i64 0) := cell_of bq rfl
    have a3 : x1.cell? ⟨w.heap.size, 3, none⟩ = some (.slice none 0 0) := cell_of bq rfl
    have fy : ∀ j, x1.frozen? ⟨w.heap.size, j, none⟩ = false := fun j => frozen_of bq
    have HF : Hid (OwnR WF (.slice (some ⟨g, 0, none⟩) LN c) g LN (ub (img P 2)) ∧ (0 < LN → w.heap.size ≤ g ∧ g < WF.heap.size) ∧ Kb 0 w WF) := (⟨ox.block (fun _ => zF.block g (by omega)), fun _ => ⟨by omega, by rw [zF.size]; omega⟩, zF.kb kwx (Nat.le_refl _)⟩ : _ ∧ _)
    have HWF : Hid (WF = _) := hWF
    clear hWF bF zF bq HB b0 z0 HE q1 q2 q3 q4 q5 q6 k2x kwx ox zx k1 HEE HSC2
    go_wp2_with fail
    rw [← (show WF = _ from HWF)]
    clear HWF
    refine bodyPost_ret (by simp [results, Try.results63, go_sem, f0, f1, f2, f3]; rfl) rfl ?_
    exact ⟨_, g, rfl, HF⟩
set_option maxHeartbeats 16000000 in
theorem im_kept_a1 {w0 : World} {dv : Nat} {P : Nat → Nat → Int} {m : Nat} {Q : Nat → Ed} {vw : Value} {y1 y2 y3 : Nat} (w : World) (h : Dr w0 dv P m Q vw w) (hr : R8 (P 1)) (hy : Nums (m8 (P 1)) y1 y2 y3) (hno : ¬ Hd (P 1) (wrap64 (y1 : Int)) (wrap64 (y2 : Int)) (wrap64 (y3 : Int))) :
    Calls Try.prog 63 #[.pointer (some ⟨dv, 0, none⟩), .int .i64 1] w (KiP false 0 0 0 (fun _ => 0) w) := by
  obtain ⟨w1, hw1⟩ : ∃ w1, w1 = w.alloc (.cells #[.bool false, .int .i64 0, .int .i64 0, .slice none 0 0] 51) := ⟨_, rfl⟩
  have k1 : Kb 0 w w1 := by rw [hw1]; exact kb_alloc _ _ _
  have b1 : w1.heap[w.heap.size]? = some (.cells #[.bool false, .int .i64 0, .int .i64 0, .slice none 0 0] 51 (0, 0)) := by rw [hw1]; exact alloc_new _ _ _
  have z1 : w1.heap.size = w.heap.size + 1 := by rw [hw1]; exact World.size_alloc _ _
  have HW1 : Hid (w1 = w.alloc (.cells #[.bool false, .int .i64 0, .int .i64 0, .slice none 0 0] 51)) := hw1
  have HH := im_dhead (y1 := y1) (y2 := y2) (y3 := y3) 1 w1 (h.keep k1) (by decide) hr hy
  rw [show ((1 : Nat) : Int) = (1 : Int) from rfl] at HH
  have HIG : Hid (∀ W, Kb 0 w W → Calls Try.prog 99 #[.pointer (some ⟨dv, 0, none⟩), .int .i64 1] W fun e w' => ∃ g c, e = .returned (.slice (some ⟨g, 0, none⟩) 8192 c) ∧ OwnR w' (.slice (some ⟨g, 0, none⟩) 8192 c) g 8192 (ub (img P 130)) ∧ W.heap.size ≤ g ∧ g < w'.heap.size ∧ 8192 ≤ c ∧ Kb 0 W w') := (fun W k => im_image1 W (h.keep k) : ∀ W, _)
  have HB1 : Hid (Kb 0 w w1 ∧ w1.heap[w.heap.size]? = some (.cells #[.bool false, .int .i64 0, .int .i64 0, .slice none 0 0] 51 (0, 0)) ∧ w1.heap.size = w.heap.size + 1) := (⟨k1, b1, z1⟩ : _ ∧ _)
  rw [hdv_f hno] at HH
  obtain ⟨LN, hLN⟩ : ∃ LN : Nat, LN = 0 := ⟨_, rfl⟩
  have HV : Hid ((Value.int .i64 0) = .int .i64 (LN : Int)) := (by rw [hLN]; rfl : (Value.int .i64 0) = .int .i64 (LN : Int))
  have hLI : (LN : Int) ≤ 8192 := by omega
  have hLL : LN ≤ 8192 := by omega
  clear hw1 k1 b1 z1 h hr hy hno hLN
  go_enter Try.func63, Try.ntmps63
  go_upto_region 1 with fail
  rw [← (show w1 = _ from HW1)]
  clear HW1
  go_wp2_with fail
  refine HH.mono ?_
  rintro e wA ⟨rfl, kA⟩
  obtain ⟨k1, b1, z1⟩ := (show _ ∧ _ ∧ _ from HB1)
  obtain ⟨P5, hP5⟩ : ∃ P5, P5 = wA.heap.size := ⟨_, rfl⟩
  obtain ⟨w2, hw2⟩ : ∃ w2, w2 = wA.alloc (.cells #[.bool false, .int .i64 0, .int .i64 0, .int .i64 0] 46) := ⟨_, rfl⟩
  have kA2 : Kb 0 wA w2 := by rw [hw2]; exact kb_alloc _ _ _
  have b5 : w2.heap[P5]? = some (.cells #[.bool false, .int .i64 0, .int .i64 0, .int .i64 0] 46 (0, 0)) := by rw [hw2, hP5]; exact alloc_new _ _ _
  have z2 : w2.heap.size = P5 + 1 := by rw [hw2, World.size_alloc, hP5]
  have k12 := kA.trans kA2
  have zz := k12.size
  have h2c : w2.cell? ⟨P5, 2, none⟩ = some (.int .i64 (LN : Int)) := by rw [← (show (Value.int .i64 0) = .int .i64 (LN : Int) from HV)]; exact cell_of b5 rfl
  have HB : Hid (w2.heap[w.heap.size]? = some (.cells #[.bool false, .int .i64 0, .int .i64 0, .slice none 0 0] 51 (0, 0)) ∧ w.heap.size < w2.heap.size) := (⟨(k12.block _ (Nat.zero_le _) (by omega)).trans b1, by omega⟩ : _ ∧ _)
  have HK2 : Hid (Kb 0 w w2 ∧ w2.heap[P5]? = some (.cells #[.bool false, .int .i64 0, .int .i64 0, .int .i64 0] 46 (0, 0)) ∧ P5 < w2.heap.size) := (⟨k1.trans k12, b5, by omega⟩ : _ ∧ _)
  have HW2 : Hid (w2 = wA.alloc (.cells #[.bool false, .int .i64 0, .int .i64 0, .int .i64 0] 46) ∧ P5 = wA.heap.size) := (⟨hw2, hP5⟩ : _ ∧ _)
  clear HH kA k1 b1 z1 hP5 hw2 kA2 b5 z2 k12 zz HB1
  go_upto_region 2 with fail
  rw [← (show _ ∧ _ from HW2).1, ← (show _ ∧ _ from HW2).2]
  clear HW2
  refine AnyL.region (S := fun W' => W'.cell? ⟨P5, 2, none⟩ = some (.int .i64 (LN : Int))) (z := 100) (by kernel_rfl) ?_
  have hS0 : (fun W' : World => W'.cell? ⟨P5, 2, none⟩ = some (.int .i64 (LN : Int))) w2.drew := h2c
  have HK20 : Hid (Kb 0 w2 w2.drew) := (Kb.drewN (Kb.refl _ _) 1 : Kb 0 w2 w2.drew)
  have HKD : Hid (Kb 0 w w2.drew) := (show _ ∧ _ from HK2).1.trans (Kb.drewN (Kb.refl _ _) 1)
  obtain ⟨W0, hW0⟩ : ∃ W0, W0 = w2.drew := ⟨_, rfl⟩
  rw [← hW0] at HKD HK20 hS0 ⊢
  clear hW0 h2c
  refine AnyL.takeAt 0 (.pointer (some ⟨dv, 0, none⟩)) rfl (by kernel_rfl) (by kernel_rfl) (by kernel_rfl) (by kernel_rfl) (fun _ _ _ h => h) rfl hS0 (by intro W hW; go_simp) ?_
  try simp only [Act.put, List.setIfInBounds_toArray, List.set_cons_zero, List.set_cons_succ]
  refine AnyL.takeAt 1 (.int .i64 1) rfl (by kernel_rfl) (by kernel_rfl) (by kernel_rfl) (by kernel_rfl) (fun _ _ _ h => h) rfl hS0 (by intro W hW; go_simp) ?_
  try simp only [Act.put, List.setIfInBounds_toArray, List.set_cons_zero, List.set_cons_succ]
  refine AnyL.takeAt 3 (.pointer (some ⟨P5, 2, none⟩)) rfl (by kernel_rfl) (by kernel_rfl) (by kernel_rfl) (by kernel_rfl) (fun _ _ _ h => h) rfl hS0 (by intro W hW; go_simp) ?_
  try simp only [Act.put, List.setIfInBounds_toArray, List.set_cons_zero, List.set_cons_succ]
  refine AnyL.takeAt 4 (.int .i64 (LN : Int)) rfl (by kernel_rfl) (by kernel_rfl) (by kernel_rfl) (by kernel_rfl) (fun _ _ _ h => h) rfl hS0 (by intro W hW; go_simp) ?_
  try simp only [Act.put, List.setIfInBounds_toArray, List.set_cons_zero, List.set_cons_succ]
  refine AnyL.oneAt 2 rfl (by kernel_rfl) rfl ?_
  intro K hK
  go_simp
  refine ((show ∀ W, Kb 0 w W → _ from HIG) W0 HKD).mono ?_
  rintro e W2 ⟨g, c, rfl, o2, hg1, hg2, hc, k2⟩
  have hS2 : W2.cell? ⟨P5, 2, none⟩ = some (.int .i64 (LN : Int)) := k2.cell hS0
  have H2 : Hid (OwnR W2 (.slice (some ⟨g, 0, none⟩) 8192 c) g 8192 (ub (img P 130)) ∧ w.heap.size < g ∧ g < W2.heap.size ∧ 8192 ≤ c ∧ Kb 0 w2 W2) := (⟨o2, by have := (show Kb 0 w2 W0 from HK20).size; have := (show _ ∧ _ from HB).2; omega, hg2, hc, (show Kb 0 w2 W0 from HK20).trans k2⟩ : _ ∧ _)
  have hcI : (8192 : Int) ≤ (c : Int) := by omega
  clear o2 hg1 hg2 k2 HKD HIG hS0 HK20
  refine hK.out _ _ (fun _ => hS2) ?_
  clear hK K
  try simp only [Act.put, List.setIfInBounds_toArray, List.set_cons_zero, List.set_cons_succ]
  refine AnyL.takeAt 5 (.slice (some ⟨g, 0, none⟩) LN c) rfl (by kernel_rfl) (by kernel_rfl) (by kernel_rfl) (by kernel_rfl) (fun _ _ _ h => h) rfl hS2 (by intro W hW; go_simp; intro hx; exfalso; omega) ?_
  try simp only [Act.put, List.setIfInBounds_toArray, List.set_cons_zero, List.set_cons_succ]
  refine AnyL.takeAt 6 (.slice (some ⟨g, 0, none⟩) LN c) rfl (by kernel_rfl) (by kernel_rfl) (by kernel_rfl) (by kernel_rfl) (fun _ _ _ h => h) rfl hS2 (by intro W hW; go_simp) ?_
  try simp only [Act.put, List.setIfInBounds_toArray, List.set_cons_zero, List.set_cons_succ]
  refine AnyL.done (by kernel_rfl) ?_
  obtain ⟨o2, hg1, hg2, hc2, k22⟩ := (show _ ∧ _ ∧ _ ∧ _ ∧ _ from H2)
  have b25 := (k22.block _ (Nat.zero_le _) (show _ ∧ _ ∧ _ from HK2).2.2).trans (show _ ∧ _ ∧ _ from HK2).2.1
  have e0 : W2.cell? ⟨P5, 0, none⟩ = some (.bool false) := cell_of b25 rfl
  have e3 : W2.cell? ⟨P5, 3, none⟩ = some (.int .i64 0) := cell_of b25 rfl
  have HE : Hid (Kb 0 w W2 ∧ Kb 0 w2 W2) := (⟨(show _ ∧ _ ∧ _ from HK2).1.trans k22, k22⟩ : _ ∧ _)
  clear o2 hg1 hg2 hc2 k22 b25 H2 HK2 hS2
  go_upto_region 3 with fail
  go_quiet (fail)
  all_goals
    generalize hx1 : World.drewN W2 _ = x1
    have k1 : Kb 0 W2 x1 := by rw [← hx1]; exact Kb.drewN (Kb.refl _ _) _
    have k2x := (show _ ∧ _ from HE).2.trans k1
    have kwx := (show _ ∧ _ from HE).1.trans k1
    clear hx1
    obtain ⟨b0, z0⟩ := (show _ ∧ _ from HB)
    have bq := (k2x.block _ (Nat.zero_le _) z0).trans b0
    obtain ⟨WF, hWF, bF, zF⟩ := four_set (.bool false) (.int .i64 0) (.int .i64 0) (.slice none 0 0) bq
    have f0 : WF.cell? ⟨w.heap.size, 0, none⟩ = some (.bool false) := cell_of bF rfl
    have f1 : WF.cell? ⟨w.heap.size, 1, none⟩ = some (.int .i64 0) := cell_of bF rfl
    have f2 : WF.cell? ⟨w.heap.size, 2, none⟩ = some (.int .i64 0) := cell_of bF rfl
    have f3 : WF.cell? ⟨w.heap.size, 3, none⟩ = some (.slice none 0 0) := cell_of bF rfl
    have a0 : x1.cell? ⟨w.heap.size, 0, none⟩ = some (.bool false) := cell_of bq rfl
    have a1 : x1.cell? ⟨w.heap.size, 1, none⟩ = some (.int .i64 0) := cell_of bq rfl
    have a2 : x1.cell? ⟨w.heap.size, 2, none⟩ = some (.int .i64 0) := cell_of bq rfl
    have a3 : x1.cell? ⟨w.heap.size, 3, none⟩ = some (.slice none 0 0) := cell_of bq rfl
    have fy : ∀ j, x1.frozen? ⟨w.heap.size, j, none⟩ = false := fun j => frozen_of bq
    have HF : Hid (Kb 0 w WF) := zF.kb kwx (Nat.le_refl _)
    have HWF : Hid (WF = _) := hWF
    clear hWF bF zF bq HB b0 z0 HE e0 e3 k2x kwx k1
    go_wp2_with fail
    rw [← (show WF = _ from HWF)]
    clear HWF
    refine bodyPost_ret (by simp [results, Try.results63, go_sem, f0, f1, f2, f3]; rfl) rfl ?_
    exact ⟨_, 0, rfl, rd_nil2 _, fun h => by omega, HF⟩
set_option maxHeartbeats 16000000 in
theorem im_kept_b1 {w0 : World} {dv : Nat} {P : Nat → Nat → Int} {m : Nat} {Q : Nat → Ed} {vw : Value} {y1 y2 y3 : Nat} (w : World) (h : Dr w0 dv P m Q vw w) (hr : R8 (P 1)) (hy : Nums (m8 (P 1)) y1 y2 y3) {G S : Int} {LN : Nat} (hG : wrap64 (y1 : Int) = G) (hL : wrap64 (y2 : Int) = (LN : Int)) (hS : wrap64 (y3 : Int) = S) (hd : Hd (P 1) (wrap64 (y1 : Int)) (wrap64 (y2 : Int)) (wrap64 (y3 : Int))) (hLL : LN ≤ 8192) (hb : ∀ j, j < 8192 → 0 ≤ img P 130 j ∧ img P 130 j ≤ 255) (hsum : ¬ sgz (img P 130) LN = S) :
    Calls Try.prog 63 #[.pointer (some ⟨dv, 0, none⟩), .int .i64 1] w (KiP false 0 0 0 (fun _ => 0) w) := by
  obtain ⟨w1, hw1⟩ : ∃ w1, w1 = w.alloc (.cells #[.bool false, .int .i64 0, .int .i64 0, .slice none 0 0] 51) := ⟨_, rfl⟩
  have k1 : Kb 0 w w1 := by rw [hw1]; exact kb_alloc _ _ _
  have b1 : w1.heap[w.heap.size]? = some (.cells #[.bool false, .int .i64 0, .int .i64 0, .slice none 0 0] 51 (0, 0)) := by rw [hw1]; exact alloc_new _ _ _
  have z1 : w1.heap.size = w.heap.size + 1 := by rw [hw1]; exact World.size_alloc _ _
  have HW1 : Hid (w1 = w.alloc (.cells #[.bool false, .int .i64 0, .int .i64 0, .slice none 0 0] 51)) := hw1
  have HH := im_dhead (y1 := y1) (y2 := y2) (y3 := y3) 1 w1 (h.keep k1) (by decide) hr hy
  rw [show ((1 : Nat) : Int) = (1 : Int) from rfl] at HH
  have HIG : Hid (∀ W, Kb 0 w W → Calls Try.prog 99 #[.pointer (some ⟨dv, 0, none⟩), .int .i64 1] W fun e w' => ∃ g c, e = .returned (.slice (some ⟨g, 0, none⟩) 8192 c) ∧ OwnR w' (.slice (some ⟨g, 0, none⟩) 8192 c) g 8192 (ub (img P 130)) ∧ W.heap.size ≤ g ∧ g < w'.heap.size ∧ 8192 ≤ c ∧ Kb 0 W w') := (fun W k => im_image1 W (h.keep k) : ∀ W, _)
  have HB1 : Hid (Kb 0 w w1 ∧ w1.heap[w.heap.size]? = some (.cells #[.bool false, .int .i64 0, .int .i64 0, .slice none 0 0] 51 (0, 0)) ∧ w1.heap.size = w.heap.size + 1) := (⟨k1, b1, z1⟩ : _ ∧ _)
  rw [hdv_t hd, hG, hL, hS] at HH
  have hLI : (LN : Int) ≤ 8192 := by omega
  have HSM : Hid (∀ (W : World) (g c : Nat), OwnR W (.slice (some ⟨g, 0, none⟩) 8192 c) g 8192 (ub (img P 130)) → 8192 ≤ c → ∀ W', W'.heap = W.heap → W'.os = W.os → W'.output = W.output → Calls Try.prog 72 #[.slice (some ⟨g, 0, none⟩) LN c] W' fun e w' => e = .returned (.int .i64 (sgz (img P 130) LN)) ∧ Kb 0 W w') := (fun W g c o hc W' e1 e2 e3 => by
    have kk : Kb 0 W W' := ⟨e2, e3, by rw [e1]; exact Nat.le_refl _, fun k _ _ => by rw [e1]⟩
    have hrow : RowV W' (.slice (some ⟨g, 0, none⟩) LN c) LN (fun i => .int .u8 (img P 130 i)) := ⟨_, _, rfl, fun _ => ⟨_, rfl, by omega, fun i hi => by rw [addr0]; exact kk.cell (o.cell i (by omega))⟩⟩
    refine (im_sumof W' hrow (by omega) (fun i hi => hb i (by omega))).mono ?_
    rintro e w' ⟨q1, q2⟩
    exact ⟨q1, kk.trans q2⟩ : ∀ (W : World) (g c : Nat), _)
  obtain ⟨SM, hSM⟩ : ∃ SM, SM = sgz (img P 130) LN := ⟨_, rfl⟩
  rw [← hSM] at hsum HSM
  have hs2 : (SM != S) = true := by simp [hsum]
  clear hw1 k1 b1 z1 h hr hy hG hL hS hd hb hSM
  go_enter Try.func63, Try.ntmps63
  go_upto_region 1 with fail
  rw [← (show w1 = _ from HW1)]
  clear HW1
  go_wp2_with fail
  refine HH.mono ?_
  rintro e wA ⟨rfl, kA⟩
  obtain ⟨k1, b1, z1⟩ := (show _ ∧ _ ∧ _ from HB1)
  obtain ⟨P5, hP5⟩ : ∃ P5, P5 = wA.heap.size := ⟨_, rfl⟩
  obtain ⟨w2, hw2⟩ : ∃ w2, w2 = wA.alloc (.cells #[.bool true, .int .i64 G, .int .i64 (LN : Int), .int .i64 S] 46) := ⟨_, rfl⟩
  have kA2 : Kb 0 wA w2 := by rw [hw2]; exact kb_alloc _ _ _
  have b5 : w2.heap[P5]? = some (.cells #[.bool true, .int .i64 G, .int .i64 (LN : Int), .int .i64 S] 46 (0, 0)) := by rw [hw2, hP5]; exact alloc_new _ _ _
  have z2 : w2.heap.size = P5 + 1 := by rw [hw2, World.size_alloc, hP5]
  have k12 := kA.trans kA2
  have zz := k12.size
  have h2c : w2.cell? ⟨P5, 2, none⟩ = some (.int .i64 (LN : Int)) := cell_of b5 rfl
  have HB : Hid (w2.heap[w.heap.size]? = some (.cells #[.bool false, .int .i64 0, .int .i64 0, .slice none 0 0] 51 (0, 0)) ∧ w.heap.size < w2.heap.size) := (⟨(k12.block _ (Nat.zero_le _) (by omega)).trans b1, by omega⟩ : _ ∧ _)
  have HK2 : Hid (Kb 0 w w2 ∧ w2.heap[P5]? = some (.cells #[.bool true, .int .i64 G, .int .i64 (LN : Int), .int .i64 S] 46 (0, 0)) ∧ P5 < w2.heap.size) := (⟨k1.trans k12, b5, by omega⟩ : _ ∧ _)
  have HW2 : Hid (w2 = wA.alloc (.cells #[.bool true, .int .i64 G, .int .i64 (LN : Int), .int .i64 S] 46) ∧ P5 = wA.heap.size) := (⟨hw2, hP5⟩ : _ ∧ _)
  clear HH kA k1 b1 z1 hP5 hw2 kA2 b5 z2 k12 zz HB1
  go_upto_region 2 with fail
  rw [← (show _ ∧ _ from HW2).1, ← (show _ ∧ _ from HW2).2]
  clear HW2
  refine AnyL.region (S := fun W' => W'.cell? ⟨P5, 2, none⟩ = some (.int .i64 (LN : Int))) (z := 100) (by kernel_rfl) ?_
  have hS0 : (fun W' : World => W'.cell? ⟨P5, 2, none⟩ = some (.int .i64 (LN : Int))) w2.drew := h2c
  have HK20 : Hid (Kb 0 w2 w2.drew) := (Kb.drewN (Kb.refl _ _) 1 : Kb 0 w2 w2.drew)
  have HKD : Hid (Kb 0 w w2.drew) := (show _ ∧ _ from HK2).1.trans (Kb.drewN (Kb.refl _ _) 1)
  obtain ⟨W0, hW0⟩ : ∃ W0, W0 = w2.drew := ⟨_, rfl⟩
  rw [← hW0] at HKD HK20 hS0 ⊢
  clear hW0 h2c
  refine AnyL.takeAt 0 (.pointer (some ⟨dv, 0, none⟩)) rfl (by kernel_rfl) (by kernel_rfl) (by kernel_rfl) (by kernel_rfl) (fun _ _ _ h => h) rfl hS0 (by intro W hW; go_simp) ?_
  try simp only [Act.put, List.setIfInBounds_toArray, List.set_cons_zero, List.set_cons_succ]
  refine AnyL.takeAt 1 (.int .i64 1) rfl (by kernel_rfl) (by kernel_rfl) (by kernel_rfl) (by kernel_rfl) (fun _ _ _ h => h) rfl hS0 (by intro W hW; go_simp) ?_
  try simp only [Act.put, List.setIfInBounds_toArray, List.set_cons_zero, List.set_cons_succ]
  refine AnyL.takeAt 3 (.pointer (some ⟨P5, 2, none⟩)) rfl (by kernel_rfl) (by kernel_rfl) (by kernel_rfl) (by kernel_rfl) (fun _ _ _ h => h) rfl hS0 (by intro W hW; go_simp) ?_
  try simp only [Act.put, List.setIfInBounds_toArray, List.set_cons_zero, List.set_cons_succ]
  refine AnyL.takeAt 4 (.int .i64 (LN : Int)) rfl (by kernel_rfl) (by kernel_rfl) (by kernel_rfl) (by kernel_rfl) (fun _ _ _ h => h) rfl hS0 (by intro W hW; go_simp) ?_
  try simp only [Act.put, List.setIfInBounds_toArray, List.set_cons_zero, List.set_cons_succ]
  refine AnyL.oneAt 2 rfl (by kernel_rfl) rfl ?_
  intro K hK
  go_simp
  refine ((show ∀ W, Kb 0 w W → _ from HIG) W0 HKD).mono ?_
  rintro e W2 ⟨g, c, rfl, o2, hg1, hg2, hc, k2⟩
  have hS2 : W2.cell? ⟨P5, 2, none⟩ = some (.int .i64 (LN : Int)) := k2.cell hS0
  have H2 : Hid (OwnR W2 (.slice (some ⟨g, 0, none⟩) 8192 c) g 8192 (ub (img P 130)) ∧ w.heap.size < g ∧ g < W2.heap.size ∧ 8192 ≤ c ∧ Kb 0 w2 W2) := (⟨o2, by have := (show Kb 0 w2 W0 from HK20).size; have := (show _ ∧ _ from HB).2; omega, hg2, hc, (show Kb 0 w2 W0 from HK20).trans k2⟩ : _ ∧ _)
  have hcI : (8192 : Int) ≤ (c : Int) := by omega
  clear o2 hg1 hg2 k2 HKD HIG hS0 HK20
  refine hK.out _ _ (fun _ => hS2) ?_
  clear hK K
  try simp only [Act.put, List.setIfInBounds_toArray, List.set_cons_zero, List.set_cons_succ]
  refine AnyL.takeAt 5 (.slice (some ⟨g, 0, none⟩) LN c) rfl (by kernel_rfl) (by kernel_rfl) (by kernel_rfl) (by kernel_rfl) (fun _ _ _ h => h) rfl hS2 (by intro W hW; go_simp; intro hx; exfalso; omega) ?_
  try simp only [Act.put, List.setIfInBounds_toArray, List.set_cons_zero, List.set_cons_succ]
  refine AnyL.takeAt 6 (.slice (some ⟨g, 0, none⟩) LN c) rfl (by kernel_rfl) (by kernel_rfl) (by kernel_rfl) (by kernel_rfl) (fun _ _ _ h => h) rfl hS2 (by intro W hW; go_simp) ?_
  try simp only [Act.put, List.setIfInBounds_toArray, List.set_cons_zero, List.set_cons_succ]
  refine AnyL.done (by kernel_rfl) ?_
  obtain ⟨o2, hg1, hg2, hc2, k22⟩ := (show _ ∧ _ ∧ _ ∧ _ ∧ _ from H2)
  have b25 := (k22.block _ (Nat.zero_le _) (show _ ∧ _ ∧ _ from HK2).2.2).trans (show _ ∧ _ ∧ _ from HK2).2.1
  have e0 : ∀ W, Kb 0 W2 W → W.cell? ⟨P5, 0, none⟩ = some (.bool true) := fun W k => k.cell (cell_of b25 rfl)
  have e1 : ∀ W, Kb 0 W2 W → W.cell? ⟨P5, 1, none⟩ = some (.int .i64 G) := fun W k => k.cell (cell_of b25 rfl)
  have e3 : ∀ W, Kb 0 W2 W → W.cell? ⟨P5, 3, none⟩ = some (.int .i64 S) := fun W k => k.cell (cell_of b25 rfl)
  have HEE : Hid (∀ W, Kb 0 W2 W → W.cell? ⟨P5, 0, none⟩ = some (.bool true) ∧ W.cell? ⟨P5, 1, none⟩ = some (.int .i64 G) ∧ W.cell? ⟨P5, 3, none⟩ = some (.int .i64 S)) := (fun W k => ⟨e0 W k, e1 W k, e3 W k⟩ : ∀ W, _)
  have HSC := (show ∀ (W : World) (g c : Nat), _ from HSM) W2 g c o2 hc2
  have HSC2 : Hid (∀ W', W'.heap = W2.heap → W'.os = W2.os → W'.output = W2.output → Calls Try.prog 72 #[.slice (some ⟨g, 0, none⟩) LN c] W' fun e w' => e = .returned (.int .i64 SM) ∧ Kb 0 W2 w') := HSC
  have HE : Hid (Kb 0 w W2 ∧ Kb 0 w2 W2 ∧ OwnR W2 (.slice (some ⟨g, 0, none⟩) 8192 c) g 8192 (ub (img P 130)) ∧ w.heap.size < g ∧ g < W2.heap.size ∧ 8192 ≤ c) := (⟨(show _ ∧ _ ∧ _ from HK2).1.trans k22, k22, o2, hg1, hg2, hc2⟩ : _ ∧ _)
  have a00 := e0 W2 (Kb.refl _ _)
  have a01 := e1 W2 (Kb.refl _ _)
  have a03 := e3 W2 (Kb.refl _ _)
  clear o2 hg1 hg2 hc2 k22 b25 H2 HK2 hS2 e0 e1 e3 HSC HSM
  go_upto_region 3 with fail
  first | (go_region_with (go_at_call 72; refine ((show ∀ W', _ from HSC2) _ (by exact rfl) (by exact rfl) (by exact rfl)).mono ?_; rintro e x1 ⟨rfl, k1⟩; obtain ⟨b00, b01, b03⟩ := (show ∀ W, Kb 0 W2 W → _ from HEE) x1 k1)) | fail
  all_goals
    obtain ⟨q1, q2, q3, q4, q5, q6⟩ := (show _ ∧ _ ∧ _ ∧ _ ∧ _ ∧ _ from HE)
    have k2x := q2.trans k1
    have kwx := q1.trans k1
    obtain ⟨b0, z0⟩ := (show _ ∧ _ from HB)
    have bq := (k2x.block _ (Nat.zero_le _) z0).trans b0
    obtain ⟨WF, hWF, bF, zF⟩ := four_set (.bool false) (.int .i64 0) (.int .i64 0) (.slice none 0 0) bq
    have f0 : WF.cell? ⟨w.heap.size, 0, none⟩ = some (.bool false) := cell_of bF rfl
    have f1 : WF.cell? ⟨w.heap.size, 1, none⟩ = some (.int .i64 0) := cell_of bF rfl
    have f2 : WF.cell? ⟨w.heap.size, 2, none⟩ = some (.int .i64 0) := cell_of bF rfl
    have f3 : WF.cell? ⟨w.heap.size, 3, none⟩ = some (.slice none 0 0) := cell_of bF rfl
    have a0 : x1.cell? ⟨w.heap.size, 0, none⟩ = some (.bool false) := cell_of bq rfl
    have a1 : x1.cell? ⟨w.heap.size, 1, none⟩ = some (.int .i64 0) := cell_of bq rfl
    have a2 : x1.cell? ⟨w.heap.size, 2, none⟩ = some (.int .i64 0) := cell_of bq rfl
    have a3 : x1.cell? ⟨w.heap.size, 3, none⟩ = some (.slice none 0 0) := cell_of bq rfl
    have fy : ∀ j, x1.frozen? ⟨w.heap.size, j, none⟩ = false := fun j => frozen_of bq
    have HF : Hid (Kb 0 w WF) := zF.kb kwx (Nat.le_refl _)
    have HWF : Hid (WF = _) := hWF
    clear hWF bF zF bq HB b0 z0 HE q1 q2 q3 q4 q5 q6 k2x kwx k1 HEE HSC2
    go_wp2_with fail
    rw [← (show WF = _ from HWF)]
    clear HWF
    refine bodyPost_ret (by simp [results, Try.results63, go_sem, f0, f1, f2, f3]; rfl) rfl ?_
    exact ⟨_, 0, rfl, rd_nil2 _, fun h => by omega, HF⟩
set_option maxHeartbeats 16000000 in
theorem im_kept_c1 {w0 : World} {dv : Nat} {P : Nat → Nat → Int} {m : Nat} {Q : Nat → Ed} {vw : Value} {y1 y2 y3 : Nat} (w : World) (h : Dr w0 dv P m Q vw w) (hr : R8 (P 1)) (hy : Nums (m8 (P 1)) y1 y2 y3) {G S : Int} {LN : Nat} (hG : wrap64 (y1 : Int) = G) (hL : wrap64 (y2 : Int) = (LN : Int)) (hS : wrap64 (y3 : Int) = S) (hd : Hd (P 1) (wrap64 (y1 : Int)) (wrap64 (y2 : Int)) (wrap64 (y3 : Int))) (hLL : LN ≤ 8192) (hb : ∀ j, j < 8192 → 0 ≤ img P 130 j ∧ img P 130 j ≤ 255) (hsum : sgz (img P 130) LN = S) :
    Calls Try.prog 63 #[.pointer (some ⟨dv, 0, none⟩), .int .i64 1] w (KiP true G 1 LN (img P 130) w) := by
  obtain ⟨w1, hw1⟩ : ∃ w1, w1 = w.alloc (.cells #[.bool false, .int .i64 0, .int .i64 0, .slice none 0 0] 51) := ⟨_, rfl⟩
  have k1 : Kb 0 w w1 := by rw [hw1]; exact kb_alloc _ _ _
  have b1 : w1.heap[w.heap.size]? = some (.cells #[.bool false, .int .i64 0, .int .i64 0, .slice none 0 0] 51 (0, 0)) := by rw [hw1]; exact alloc_new _ _ _
  have z1 : w1.heap.size = w.heap.size + 1 := by rw [hw1]; exact World.size_alloc _ _
  have HW1 : Hid (w1 = w.alloc (.cells #[.bool false, .int .i64 0, .int .i64 0, .slice none 0 0] 51)) := hw1
  have HH := im_dhead (y1 := y1) (y2 := y2) (y3 := y3) 1 w1 (h.keep k1) (by decide) hr hy
  rw [show ((1 : Nat) : Int) = (1 : Int) from rfl] at HH
  have HIG : Hid (∀ W, Kb 0 w W → Calls Try.prog 99 #[.pointer (some ⟨dv, 0, none⟩), .int .i64 1] W fun e w' => ∃ g c, e = .returned (.slice (some ⟨g, 0, none⟩) 8192 c) ∧ OwnR w' (.slice (some ⟨g, 0, none⟩) 8192 c) g 8192 (ub (img P 130)) ∧ W.heap.size ≤ g ∧ g < w'.heap.size ∧ 8192 ≤ c ∧ Kb 0 W w') := (fun W k => im_image1 W (h.keep k) : ∀ W, _)
  have HB1 : Hid (Kb 0 w w1 ∧ w1.heap[w.heap.size]? = some (.cells #[.bool false, .int .i64 0, .int .i64 0, .slice none 0 0] 51 (0, 0)) ∧ w1.heap.size = w.heap.size + 1) := (⟨k1, b1, z1⟩ : _ ∧ _)
  rw [hdv_t hd, hG, hL, hS] at HH
  have hLI : (LN : Int) ≤ 8192 := by omega
  have HSM : Hid (∀ (W : World) (g c : Nat), OwnR W (.slice (some ⟨g, 0, none⟩) 8192 c) g 8192 (ub (img P 130)) → 8192 ≤ c → ∀ W', W'.heap = W.heap → W'.os = W.os → W'.output = W.output → Calls Try.prog 72 #[.slice (some ⟨g, 0, none⟩) LN c] W' fun e w' => e = .returned (.int .i64 (sgz (img P 130) LN)) ∧ Kb 0 W w') := (fun W g c o hc W' e1 e2 e3 => by
    have kk : Kb 0 W W' := ⟨e2, e3, by rw [e1]; exact Nat.le_refl _, fun k _ _ => by rw [e1]⟩
    have hrow : RowV W' (.slice (some ⟨g, 0, none⟩) LN c) LN (fun i => .int .u8 (img P 130 i)) := ⟨_, _, rfl, fun _ => ⟨_, rfl, by omega, fun i hi => by rw [addr0]; exact kk.cell (o.cell i (by omega))⟩⟩
    refine (im_sumof W' hrow (by omega) (fun i hi => hb i (by omega))).mono ?_
    rintro e w' ⟨q1, q2⟩
    exact ⟨q1, kk.trans q2⟩ : ∀ (W : World) (g c : Nat), _)
  obtain ⟨SM, hSM⟩ : ∃ SM, SM = sgz (img P 130) LN := ⟨_, rfl⟩
  rw [← hSM] at hsum HSM
  have hs2 : (SM != S) = false := by simp [hsum]
  clear hw1 k1 b1 z1 h hr hy hG hL hS hd hb hSM
  go_enter Try.func63, Try.ntmps63
  go_upto_region 1 with fail
  rw [← (show w1 = _ from HW1)]
  clear HW1
  go_wp2_with fail
  refine HH.mono ?_
  rintro e wA ⟨rfl, kA⟩
  obtain ⟨k1, b1, z1⟩ := (show _ ∧ _ ∧ _ from HB1)
  obtain ⟨P5, hP5⟩ : ∃ P5, P5 = wA.heap.size := ⟨_, rfl⟩
  obtain ⟨w2, hw2⟩ : ∃ w2, w2 = wA.alloc (.cells #[.bool true, .int .i64 G, .int .i64 (LN : Int), .int .i64 S] 46) := ⟨_, rfl⟩
  have kA2 : Kb 0 wA w2 := by rw [hw2]; exact kb_alloc _ _ _
  have b5 : w2.heap[P5]? = some (.cells #[.bool true, .int .i64 G, .int .i64 (LN : Int), .int .i64 S] 46 (0, 0)) := by rw [hw2, hP5]; exact alloc_new _ _ _
  have z2 : w2.heap.size = P5 + 1 := by rw [hw2, World.size_alloc, hP5]
  have k12 := kA.trans kA2
  have zz := k12.size
  have h2c : w2.cell? ⟨P5, 2, none⟩ = some (.int .i64 (LN : Int)) := cell_of b5 rfl
  have HB : Hid (w2.heap[w.heap.size]? = some (.cells #[.bool false, .int .i64 0, .int .i64 0, .slice none 0 0] 51 (0, 0)) ∧ w.heap.size < w2.heap.size) := (⟨(k12.block _ (Nat.zero_le _) (by omega)).trans b1, by omega⟩ : _ ∧ _)
  have HK2 : Hid (Kb 0 w w2 ∧ w2.heap[P5]? = some (.cells #[.bool true, .int .i64 G, .int .i64 (LN : Int), .int .i64 S] 46 (0, 0)) ∧ P5 < w2.heap.size) := (⟨k1.trans k12, b5, by omega⟩ : _ ∧ _)
  have HW2 : Hid (w2 = wA.alloc (.cells #[.bool true, .int .i64 G, .int .i64 (LN : Int), .int .i64 S] 46) ∧ P5 = wA.heap.size) := (⟨hw2, hP5⟩ : _ ∧ _)
  clear HH kA k1 b1 z1 hP5 hw2 kA2 b5 z2 k12 zz HB1
  go_upto_region 2 with fail
  rw [← (show _ ∧ _ from HW2).1, ← (show _ ∧ _ from HW2).2]
  clear HW2
  refine AnyL.region (S := fun W' => W'.cell? ⟨P5, 2, none⟩ = some (.int .i64 (LN : Int))) (z := 100) (by kernel_rfl) ?_
  have hS0 : (fun W' : World => W'.cell? ⟨P5, 2, none⟩ = some (.int .i64 (LN : Int))) w2.drew := h2c
  have HK20 : Hid (Kb 0 w2 w2.drew) := (Kb.drewN (Kb.refl _ _) 1 : Kb 0 w2 w2.drew)
  have HKD : Hid (Kb 0 w w2.drew) := (show _ ∧ _ from HK2).1.trans (Kb.drewN (Kb.refl _ _) 1)
  obtain ⟨W0, hW0⟩ : ∃ W0, W0 = w2.drew := ⟨_, rfl⟩
  rw [← hW0] at HKD HK20 hS0 ⊢
  clear hW0 h2c
  refine AnyL.takeAt 0 (.pointer (some ⟨dv, 0, none⟩)) rfl (by kernel_rfl) (by kernel_rfl) (by kernel_rfl) (by kernel_rfl) (fun _ _ _ h => h) rfl hS0 (by intro W hW; go_simp) ?_
  try simp only [Act.put, List.setIfInBounds_toArray, List.set_cons_zero, List.set_cons_succ]
  refine AnyL.takeAt 1 (.int .i64 1) rfl (by kernel_rfl) (by kernel_rfl) (by kernel_rfl) (by kernel_rfl) (fun _ _ _ h => h) rfl hS0 (by intro W hW; go_simp) ?_
  try simp only [Act.put, List.setIfInBounds_toArray, List.set_cons_zero, List.set_cons_succ]
  refine AnyL.takeAt 3 (.pointer (some ⟨P5, 2, none⟩)) rfl (by kernel_rfl) (by kernel_rfl) (by kernel_rfl) (by kernel_rfl) (fun _ _ _ h => h) rfl hS0 (by intro W hW; go_simp) ?_
  try simp only [Act.put, List.setIfInBounds_toArray, List.set_cons_zero, List.set_cons_succ]
  refine AnyL.takeAt 4 (.int .i64 (LN : Int)) rfl (by kernel_rfl) (by kernel_rfl) (by kernel_rfl) (by kernel_rfl) (fun _ _ _ h => h) rfl hS0 (by intro W hW; go_simp) ?_
  try simp only [Act.put, List.setIfInBounds_toArray, List.set_cons_zero, List.set_cons_succ]
  refine AnyL.oneAt 2 rfl (by kernel_rfl) rfl ?_
  intro K hK
  go_simp
  refine ((show ∀ W, Kb 0 w W → _ from HIG) W0 HKD).mono ?_
  rintro e W2 ⟨g, c, rfl, o2, hg1, hg2, hc, k2⟩
  have hS2 : W2.cell? ⟨P5, 2, none⟩ = some (.int .i64 (LN : Int)) := k2.cell hS0
  have H2 : Hid (OwnR W2 (.slice (some ⟨g, 0, none⟩) 8192 c) g 8192 (ub (img P 130)) ∧ w.heap.size < g ∧ g < W2.heap.size ∧ 8192 ≤ c ∧ Kb 0 w2 W2) := (⟨o2, by have := (show Kb 0 w2 W0 from HK20).size; have := (show _ ∧ _ from HB).2; omega, hg2, hc, (show Kb 0 w2 W0 from HK20).trans k2⟩ : _ ∧ _)
  have hcI : (8192 : Int) ≤ (c : Int) := by omega
  clear o2 hg1 hg2 k2 HKD HIG hS0 HK20
  refine hK.out _ _ (fun _ => hS2) ?_
  clear hK K
  try simp only [Act.put, List.setIfInBounds_toArray, List.set_cons_zero, List.set_cons_succ]
  refine AnyL.takeAt 5 (.slice (some ⟨g, 0, none⟩) LN c) rfl (by kernel_rfl) (by kernel_rfl) (by kernel_rfl) (by kernel_rfl) (fun _ _ _ h => h) rfl hS2 (by intro W hW; go_simp; intro hx; exfalso; omega) ?_
  try simp only [Act.put, List.setIfInBounds_toArray, List.set_cons_zero, List.set_cons_succ]
  refine AnyL.takeAt 6 (.slice (some ⟨g, 0, none⟩) LN c) rfl (by kernel_rfl) (by kernel_rfl) (by kernel_rfl) (by kernel_rfl) (fun _ _ _ h => h) rfl hS2 (by intro W hW; go_simp) ?_
  try simp only [Act.put, List.setIfInBounds_toArray, List.set_cons_zero, List.set_cons_succ]
  refine AnyL.done (by kernel_rfl) ?_
  obtain ⟨o2, hg1, hg2, hc2, k22⟩ := (show _ ∧ _ ∧ _ ∧ _ ∧ _ from H2)
  have b25 := (k22.block _ (Nat.zero_le _) (show _ ∧ _ ∧ _ from HK2).2.2).trans (show _ ∧ _ ∧ _ from HK2).2.1
  have e0 : ∀ W, Kb 0 W2 W → W.cell? ⟨P5, 0, none⟩ = some (.bool true) := fun W k => k.cell (cell_of b25 rfl)
  have e1 : ∀ W, Kb 0 W2 W → W.cell? ⟨P5, 1, none⟩ = some (.int .i64 G) := fun W k => k.cell (cell_of b25 rfl)
  have e3 : ∀ W, Kb 0 W2 W → W.cell? ⟨P5, 3, none⟩ = some (.int .i64 S) := fun W k => k.cell (cell_of b25 rfl)
  have HEE : Hid (∀ W, Kb 0 W2 W → W.cell? ⟨P5, 0, none⟩ = some (.bool true) ∧ W.cell? ⟨P5, 1, none⟩ = some (.int .i64 G) ∧ W.cell? ⟨P5, 3, none⟩ = some (.int .i64 S)) := (fun W k => ⟨e0 W k, e1 W k, e3 W k⟩ : ∀ W, _)
  have HSC := (show ∀ (W : World) (g c : Nat), _ from HSM) W2 g c o2 hc2
  have HSC2 : Hid (∀ W', W'.heap = W2.heap → W'.os = W2.os → W'.output = W2.output → Calls Try.prog 72 #[.slice (some ⟨g, 0, none⟩) LN c] W' fun e w' => e = .returned (.int .i64 SM) ∧ Kb 0 W2 w') := HSC
  have HE : Hid (Kb 0 w W2 ∧ Kb 0 w2 W2 ∧ OwnR W2 (.slice (some ⟨g, 0, none⟩) 8192 c) g 8192 (ub (img P 130)) ∧ w.heap.size < g ∧ g < W2.heap.size ∧ 8192 ≤ c) := (⟨(show _ ∧ _ ∧ _ from HK2).1.trans k22, k22, o2, hg1, hg2, hc2⟩ : _ ∧ _)
  have a00 := e0 W2 (Kb.refl _ _)
  have a01 := e1 W2 (Kb.refl _ _)
  have a03 := e3 W2 (Kb.refl _ _)
  clear o2 hg1 hg2 hc2 k22 b25 H2 HK2 hS2 e0 e1 e3 HSC HSM
  go_upto_region 3 with fail
  first | (go_region_with (go_at_call 72; refine ((show ∀ W', _ from HSC2) _ (by exact rfl) (by exact rfl) (by exact rfl)).mono ?_; rintro e x1 ⟨rfl, k1⟩; obtain ⟨b00, b01, b03⟩ := (show ∀ W, Kb 0 W2 W → _ from HEE) x1 k1)) | fail
  all_goals
    obtain ⟨q1, q2, q3, q4, q5, q6⟩ := (show _ ∧ _ ∧ _ ∧ _ ∧ _ ∧ _ from HE)
    have k2x := q2.trans k1
    have kwx := q1.trans k1
    have ox : OwnR x1 (.slice (some ⟨g, 0, none⟩) LN c) g LN (ub (img P 130)) := ⟨⟨_, _, rfl, fun _ => ⟨rfl, by omega⟩⟩, fun i hi => k1.cell (q3.cell i (by omega)), fun _ j => (World.frozen?_of_block (k1.block g (Nat.zero_le _) q5)).trans (q3.fz (by omega) j)⟩
    have zx := k1.size
    obtain ⟨b0, z0⟩ := (show _ ∧ _ from HB)
    have bq := (k2x.block _ (Nat.zero_le _) z0).trans b0
    obtain ⟨WF, hWF, bF, zF⟩ := four_set (.bool true) (.int .i64 G) (.int .i64 1) (.slice (some ⟨g, 0, none⟩) LN c) bq
    have f0 : WF.cell? ⟨w.heap.size, 0, none⟩ = some (.bool true) := cell_of bF rfl
    have f1 : WF.cell? ⟨w.heap.size, 1, none⟩ = some (.int .i64 G) := cell_of bF rfl
    have f2 : WF.cell? ⟨w.heap.size, 2, none⟩ = some (.int .i64 1) := cell_of bF rfl
    have f3 : WF.cell? ⟨w.heap.size, 3, none⟩ = some (.slice (some ⟨g, 0, none⟩) LN c) := cell_of bF rfl
    have a0 : x1.cell? ⟨w.heap.size, 0, none⟩ = some (.bool false) := cell_of bq rfl
    have a1 : x1.cell? ⟨w.heap.size, 1, none⟩ = some (.int .i64 0) := cell_of bq rfl
    have a2 : x1.cell? ⟨w.heap.size, 2, none⟩ = some (.int .i64 0) := cell_of bq rfl
    have a3 : x1.cell? ⟨w.heap.size, 3, none⟩ = some (.slice none 0 0) := cell_of bq rfl
    have fy : ∀ j, x1.frozen? ⟨w.heap.size, j, none⟩ = false := fun j => frozen_of bq
    have HF : Hid (OwnR WF (.slice (some ⟨g, 0, none⟩) LN c) g LN (ub (img P 130)) ∧ (0 < LN → w.heap.size ≤ g ∧ g < WF.heap.size) ∧ Kb 0 w WF) := (⟨ox.block (fun _ => zF.block g (by omega)), fun _ => ⟨by omega, by rw [zF.size]; omega⟩, zF.kb kwx (Nat.le_refl _)⟩ : _ ∧ _)
    have HWF : Hid (WF = _) := hWF
    clear hWF bF zF bq HB b0 z0 HE q1 q2 q3 q4 q5 q6 k2x kwx ox zx k1 HEE HSC2
    go_wp2_with fail
    rw [← (show WF = _ from HWF)]
    clear HWF
    refine bodyPost_ret (by simp [results, Try.results63, go_sem, f0, f1, f2, f3]; rfl) rfl ?_
    exact ⟨_, g, rfl, HF⟩
end Go.Proofs.Ytaggciimacanbaa.Fo

namespace Go.Proofs.Ytaggciimacanbaa.Fo
open Go.ChangeShapes Go.WideShapes Go.ChangeAt Go.RowKit
set_option linter.unusedVariables false
set_option maxRecDepth 100000
set_option linter.unusedSimpArgs false
/-- a kept image -/
structure Ki where
  ok : Bool
  G : Int
  sl : Int
  N : Nat
  A : Nat → Int
def zK : Ki := ⟨false, 0, 0, 0, fun _ => 0⟩
def KP (X : Ki) : World → Ending → World → Prop := KiP X.ok X.G X.sl X.N X.A
noncomputable def kmx (X Y : Ki) : Ki := if X.G < Y.G then Y else X
noncomputable def xk (Y : Nat → Ki) : Nat → Ki
  | 0 => zK
  | i + 1 => kmx (xk Y i) (Y i)
/-- the newest so far, in the block behind wD -/
structure NI (w2 wD : World) (X : Ki) (vx : Value) (wr : World) : Prop where
  os : wr.os = wD.os
  out : wr.output = wD.output
  sz : wD.heap.size < wr.heap.size
  lo : ∀ q, q < wD.heap.size → wr.heap[q]? = wD.heap[q]?
  bl : wr.heap[wD.heap.size]? = some (.cells #[.bool X.ok, .int .i64 X.G, .int .i64 X.sl, vx] 51 (0, 0))
  ow : ∃ g, OwnR wr vx g X.N (ub X.A) ∧ (0 < X.N → wD.heap.size < g ∧ g < wr.heap.size)
theorem NI.dr {w2 wD : World} {X : Ki} {vx : Value} {wr : World} {dv : Nat} {P : Nat → Nat → Int} {Q : Nat → Ed} (h : NI w2 wD X vx wr) (d : Dr w2 dv P 0 Q (.slice none 0 0) wD) : Dr w2 dv P 0 Q (.slice none 0 0) wr := by
  have hlt := d.lt
  have hsz := h.sz
  have hkz := d.kb.size
  obtain ⟨c, hc, hs⟩ := d.bl
  have cc : ∀ o, wr.cell? ⟨dv, o, none⟩ = wD.cell? ⟨dv, o, none⟩ := fun o => World.cell?_of_block (h.lo dv hlt)
  exact ⟨⟨h.os.trans d.kb.os, h.out.trans d.kb.output, by omega, fun q h1 h2 => (h.lo q (by omega)).trans (d.kb.block q h1 h2)⟩, d.ge, by omega, ⟨c, (h.lo dv hlt).trans hc, hs⟩, fun j v hv => (cc _).trans (d.rg j v hv), (cc _).trans d.wt, World.ownsRow_nil _ _ _ _⟩
theorem NI.kb {w2 wD : World} {X : Ki} {vx : Value} {wr : World} (h : NI w2 wD X vx wr) (k : Kb 0 w2 wD) : Kb 0 w2 wr := by
  have := h.sz
  have := k.size
  exact ⟨h.os.trans k.os, h.out.trans k.output, by omega, fun q h1 h2 => (h.lo q (by omega)).trans (k.block q h1 h2)⟩
theorem NI.cells {w2 wD : World} {X : Ki} {vx : Value} {wr W : World} (h : NI w2 wD X vx wr) (k : Kb 0 wr W) : W.cell? ⟨wD.heap.size, 0, none⟩ = some (.bool X.ok) ∧ W.cell? ⟨wD.heap.size, 1, none⟩ = some (.int .i64 X.G) ∧ W.cell? ⟨wD.heap.size, 2, none⟩ = some (.int .i64 X.sl) ∧ W.cell? ⟨wD.heap.size, 3, none⟩ = some vx ∧ ∀ j, W.frozen? ⟨wD.heap.size, j, none⟩ = false := by
  have b := (k.block _ (Nat.zero_le _) h.sz).trans h.bl
  exact ⟨cell_of b rfl, cell_of b rfl, cell_of b rfl, cell_of b rfl, fun j => frozen_of b⟩
theorem NI.keep {w2 wD : World} {X : Ki} {vx : Value} {wr W : World} (h : NI w2 wD X vx wr) (k : Kb 0 wr W) : NI w2 wD X vx W := by
  obtain ⟨g, o, hg⟩ := h.ow
  have := k.size
  have := h.sz
  exact ⟨k.os.trans h.os, k.output.trans h.out, by omega, fun q hq => (k.block q (Nat.zero_le _) (by omega)).trans (h.lo q hq), (k.block _ (Nat.zero_le _) h.sz).trans h.bl, g, o.block (fun hn => k.block g (Nat.zero_le _) (hg hn).2), fun hn => ⟨(hg hn).1, by have := (hg hn).2; omega⟩⟩
theorem NI.put {w2 wD : World} {X Y : Ki} {vx vy : Value} {wr W WF : World} {g : Nat} (h : NI w2 wD X vx wr) (k : Kb 0 wr W) (o : OwnR W vy g Y.N (ub Y.A)) (hg : 0 < Y.N → wr.heap.size ≤ g ∧ g < W.heap.size) (bF : WF.heap[wD.heap.size]? = some (.cells #[.bool Y.ok, .int .i64 Y.G, .int .i64 Y.sl, vy] 51 (0, 0))) (z : Kz wD.heap.size W WF) : NI w2 wD Y vy WF := by
  have hk := h.keep k
  have hsz := h.sz
  exact ⟨z.os.trans hk.os, z.output.trans hk.out, by rw [z.size]; exact hk.sz, fun q hq => (z.block q (by omega)).trans (hk.lo q hq), bF, g, o.block (fun hn => z.block g (by have := (hg hn).1; omega)), fun hn => ⟨by have := (hg hn).1; omega, by rw [z.size]; exact (hg hn).2⟩⟩
set_option maxHeartbeats 8000000 in
theorem im_new_no {v1 v2 : Value} {D : Dd} (w : World) (ha : RowD 0 w v1 v2 D) (hd : BdD D) (hok : ¬ Dok D) :
    Calls Try.prog 28 #[.agg #[v1, v2]] w (KP zK w) := by
  obtain ⟨⟨p1, c1, rfl, -⟩, ⟨p2, c2, rfl, -⟩⟩ := id ha
  obtain ⟨w1, hw1⟩ : ∃ w1, w1 = w.alloc (.cells #[.slice p1 D.n c1, .slice p2 D.m c2] 30) := ⟨_, rfl⟩
  obtain ⟨w2, hw2⟩ : ∃ w2, w2 = w1.alloc (.cells #[.bool false, .int .i64 0, .int .i64 0, .slice none 0 0] 51) := ⟨_, rfl⟩
  have k1 : Kb 0 w w1 := by rw [hw1]; exact kb_alloc _ _ _
  have b1 : w1.heap[w.heap.size]? = some (.cells #[.slice p1 D.n c1, .slice p2 D.m c2] 30 (0, 0)) := by rw [hw1]; exact alloc_new _ _ _
  have z1 : w1.heap.size = w.heap.size + 1 := by rw [hw1]; exact World.size_alloc _ _
  have k2 : Kb 0 w1 w2 := by rw [hw2]; exact kb_alloc _ _ _
  have b2 : w2.heap[w.heap.size + 1]? = some (.cells #[.bool false, .int .i64 0, .int .i64 0, .slice none 0 0] 51 (0, 0)) := by rw [hw2, ← z1]; exact alloc_new _ _ _
  have z2 : w2.heap.size = w.heap.size + 2 := by rw [hw2, World.size_alloc, z1]
  have b12 := (k2.block _ (Nat.zero_le _) (by omega)).trans b1
  have u0 : w2.cell? ⟨w.heap.size, 0, none⟩ = some (.slice p1 D.n c1) := cell_of b12 rfl
  have u1 : w2.cell? ⟨w.heap.size, 1, none⟩ = some (.slice p2 D.m c2) := cell_of b12 rfl
  have kw2 := k1.trans k2
  have HB : Hid (Kb 0 w w2 ∧ w2.heap[w.heap.size + 1]? = some (.cells #[.bool false, .int .i64 0, .int .i64 0, .slice none 0 0] 51 (0, 0)) ∧ w2.heap.size = w.heap.size + 2) := (⟨kw2, b2, z2⟩ : _ ∧ _)
  have HW2 : Hid (w2 = (w.alloc (.cells #[.slice p1 D.n c1, .slice p2 D.m c2] 30)).alloc (.cells #[.bool false, .int .i64 0, .int .i64 0, .slice none 0 0] 51)) := (by rw [hw2, hw1] : w2 = _)
  have HI := im_settled_no w2 (ha.keep kw2) hd hok
  clear hw1 hw2 k1 b1 z1 k2 b2 z2 b12 kw2 ha hd hok
  go_enter Try.func28, Try.ntmps28
  go_upto_region 1 with fail
  rw [← (show w2 = _ from HW2)]
  clear HW2
  go_wp2_with fail
  refine HI.mono ?_
  rintro e w3 ⟨rfl, k3⟩
  clear HI u0 u1
  obtain ⟨kw2, b2, z2⟩ := (show _ ∧ _ ∧ _ from HB)
  have bq := (k3.block _ (Nat.zero_le _) (by omega)).trans b2
  obtain ⟨WF, hWF, bF, zF⟩ := four_set (.bool false) (.int .i64 0) (.int .i64 0) (.slice none 0 0) bq
  have f0 : WF.cell? ⟨w.heap.size + 1, 0, none⟩ = some (.bool false) := cell_of bF rfl
  have f1 : WF.cell? ⟨w.heap.size + 1, 1, none⟩ = some (.int .i64 0) := cell_of bF rfl
  have f2 : WF.cell? ⟨w.heap.size + 1, 2, none⟩ = some (.int .i64 0) := cell_of bF rfl
  have f3 : WF.cell? ⟨w.heap.size + 1, 3, none⟩ = some (.slice none 0 0) := cell_of bF rfl
  have a0 : w3.cell? ⟨w.heap.size + 1, 0, none⟩ = some (.bool false) := cell_of bq rfl
  have a1 : w3.cell? ⟨w.heap.size + 1, 1, none⟩ = some (.int .i64 0) := cell_of bq rfl
  have a2 : w3.cell? ⟨w.heap.size + 1, 2, none⟩ = some (.int .i64 0) := cell_of bq rfl
  have a3 : w3.cell? ⟨w.heap.size + 1, 3, none⟩ = some (.slice none 0 0) := cell_of bq rfl
  have fy : ∀ j, w3.frozen? ⟨w.heap.size + 1, j, none⟩ = false := fun j => frozen_of bq
  have HF : Hid (Kb 0 w WF) := zF.kb (kw2.trans k3) (by omega)
  have HWF : Hid (WF = _) := hWF
  clear hWF bF zF bq HB kw2 b2 z2 k3
  go_wp2_with fail
  rw [← (show WF = _ from HWF)]
  clear HWF
  refine bodyPost_ret (by simp [results, Try.results28, go_sem, f0, f1, f2, f3]; rfl) rfl ?_
  exact ⟨_, 0, rfl, rd_nil2 _, fun h => absurd h (Nat.lt_irrefl 0), HF⟩
set_option maxHeartbeats 16000000 in
theorem im_new_yes {v1 v2 : Value} {D : Dd} {Y : Nat → Ki} (w : World) (ha : RowD 0 w v1 v2 D) (hd : BdD D) (hok : Dok D) (hY : ∀ i : Nat, i < 2 → ∀ w2 dv W, Dr w2 dv (stl (dpg D) D.Q D.m) 0 D.Q (.slice none 0 0) W → Calls Try.prog 63 #[.pointer (some ⟨dv, 0, none⟩), .int .i64 (i : Int)] W (KP (Y i) W)) :
    Calls Try.prog 28 #[.agg #[v1, v2]] w (KP (xk Y 2) w) := by
  obtain ⟨⟨p1, c1, rfl, -⟩, ⟨p2, c2, rfl, -⟩⟩ := id ha
  obtain ⟨w1, hw1⟩ : ∃ w1, w1 = w.alloc (.cells #[.slice p1 D.n c1, .slice p2 D.m c2] 30) := ⟨_, rfl⟩
  obtain ⟨w2, hw2⟩ : ∃ w2, w2 = w1.alloc (.cells #[.bool false, .int .i64 0, .int .i64 0, .slice none 0 0] 51) := ⟨_, rfl⟩
  have k1 : Kb 0 w w1 := by rw [hw1]; exact kb_alloc _ _ _
  have b1 : w1.heap[w.heap.size]? = some (.cells #[.slice p1 D.n c1, .slice p2 D.m c2] 30 (0, 0)) := by rw [hw1]; exact alloc_new _ _ _
  have z1 : w1.heap.size = w.heap.size + 1 := by rw [hw1]; exact World.size_alloc _ _
  have k2 : Kb 0 w1 w2 := by rw [hw2]; exact kb_alloc _ _ _
  have b2 : w2.heap[w.heap.size + 1]? = some (.cells #[.bool false, .int .i64 0, .int .i64 0, .slice none 0 0] 51 (0, 0)) := by rw [hw2, ← z1]; exact alloc_new _ _ _
  have z2 : w2.heap.size = w.heap.size + 2 := by rw [hw2, World.size_alloc, z1]
  have b12 := (k2.block _ (Nat.zero_le _) (by omega)).trans b1
  have u0 : w2.cell? ⟨w.heap.size, 0, none⟩ = some (.slice p1 D.n c1) := cell_of b12 rfl
  have u1 : w2.cell? ⟨w.heap.size, 1, none⟩ = some (.slice p2 D.m c2) := cell_of b12 rfl
  have kw2 := k1.trans k2
  have HB : Hid (Kb 0 w w2 ∧ w2.heap[w.heap.size + 1]? = some (.cells #[.bool false, .int .i64 0, .int .i64 0, .slice none 0 0] 51 (0, 0)) ∧ w2.heap.size = w.heap.size + 2) := (⟨kw2, b2, z2⟩ : _ ∧ _)
  have HW2 : Hid (w2 = (w.alloc (.cells #[.slice p1 D.n c1, .slice p2 D.m c2] 30)).alloc (.cells #[.bool false, .int .i64 0, .int .i64 0, .slice none 0 0] 51)) := (by rw [hw2, hw1] : w2 = _)
  have HI := im_settled w2 (ha.keep kw2) hd hok
  have HY : Hid (∀ i : Nat, i < 2 → ∀ dv W, Dr w2 dv (stl (dpg D) D.Q D.m) 0 D.Q (.slice none 0 0) W → Calls Try.prog 63 #[.pointer (some ⟨dv, 0, none⟩), .int .i64 (i : Int)] W (KP (Y i) W)) := (fun i hi dv W h => hY i hi w2 dv W h : ∀ i : Nat, _)
  clear hw1 hw2 k1 b1 z1 k2 b2 z2 b12 kw2 ha hd hok hY
  go_enter Try.func28, Try.ntmps28
  go_upto_region 1 with fail
  rw [← (show w2 = _ from HW2)]
  clear HW2
  go_wp2_with fail
  refine HI.mono ?_
  rintro e wD ⟨dv, rfl, hD⟩
  have HDR : Hid (Dr w2 dv (stl (dpg D) D.Q D.m) 0 D.Q (.slice none 0 0) wD) := hD
  obtain ⟨w4, hw4⟩ : ∃ w4, w4 = wD.alloc (.cells #[.bool false, .int .i64 0, .int .i64 0, .slice none 0 0] 51) := ⟨_, rfl⟩
  have hN0 : NI w2 wD (xk Y 0) (.slice none 0 0) w4 := by
    have k4 : Kb 0 wD w4 := by rw [hw4]; exact kb_alloc _ _ _
    exact ⟨k4.os, k4.output, by rw [hw4, World.size_alloc]; omega, fun q hq => k4.block q (Nat.zero_le _) hq, by rw [hw4]; exact alloc_new _ _ _, 0, rd_nil2 _, fun h => absurd h (Nat.lt_irrefl 0)⟩
  have HN0 : Hid (NI w2 wD (xk Y 0) (.slice none 0 0) w4) := hN0
  have HW4 : Hid (w4 = wD.alloc (.cells #[.bool false, .int .i64 0, .int .i64 0, .slice none 0 0] 51)) := hw4
  obtain ⟨Pn, hPn⟩ : ∃ Pn, Pn = wD.heap.size := ⟨_, rfl⟩
  have HPN : Hid (Pn = wD.heap.size) := hPn
  clear HI u0 u1 hD hw4 hN0 hPn
  go_upto_region 5 with fail
  rw [← (show w4 = _ from HW4), ← (show Pn = _ from HPN)]
  clear HW4
  go_wp2_with fail
  go_loopw [12] (fun s12 wr => ∃ i : Nat, s12 = .int .i64 (i : Int) ∧ i ≤ 2 ∧ ∃ px nx cx, Hid (NI w2 wD (xk Y i) (.slice px nx cx) wr)) (fun s12 _ => 2 - (intOf s12).toNat)
  case atStart => exact ⟨0, rfl, Nat.zero_le _, _, _, _, HN0⟩
  case round =>
    clear HN0
    obtain ⟨i, rfl, hil, px, nx, cx, HX⟩ := hrel
    have hX := (show NI w2 wD (xk Y i) (.slice px nx cx) wr from HX)
    clear HX
    by_cases hi : i < 2
    case neg =>
      obtain rfl : i = 2 := by omega
      obtain ⟨c0, c1, c2, c3, -⟩ := hX.cells (Kb.refl _ _)
      rw [← (show Pn = _ from HPN)] at c0 c1 c2 c3
      have k2r := hX.kb (show Dr w2 dv _ 0 _ _ wD from HDR).kb
      obtain ⟨XO, hXO⟩ : ∃ XO, XO = (xk Y 2).ok := ⟨_, rfl⟩
      obtain ⟨XG, hXG⟩ : ∃ XG, XG = (xk Y 2).G := ⟨_, rfl⟩
      obtain ⟨XS, hXS⟩ : ∃ XS, XS = (xk Y 2).sl := ⟨_, rfl⟩
      rw [← hXO] at c0
      rw [← hXG] at c1
      rw [← hXS] at c2
      have HXX : Hid (XO = (xk Y 2).ok ∧ XG = (xk Y 2).G ∧ XS = (xk Y 2).sl) := (⟨hXO, hXG, hXS⟩ : _ ∧ _)
      have hw2D := (show Dr w2 dv _ 0 _ _ wD from HDR).kb.size
      have ho := hX.ow
      clear hX hXO hXG hXS
      obtain ⟨kw2, b2, z2⟩ := (show _ ∧ _ ∧ _ from HB)
      have bq := (k2r.block _ (Nat.zero_le _) (by omega)).trans b2
      obtain ⟨WF, hWF, bF, zF⟩ := four_set (.bool XO) (.int .i64 XG) (.int .i64 XS) (.slice px nx cx) bq
      have f0 : WF.cell? ⟨w.heap.size + 1, 0, none⟩ = some (.bool XO) := cell_of bF rfl
      have f1 : WF.cell? ⟨w.heap.size + 1, 1, none⟩ = some (.int .i64 XG) := cell_of bF rfl
      have f2 : WF.cell? ⟨w.heap.size + 1, 2, none⟩ = some (.int .i64 XS) := cell_of bF rfl
      have f3 : WF.cell? ⟨w.heap.size + 1, 3, none⟩ = some (.slice px nx cx) := cell_of bF rfl
      have a0 : wr.cell? ⟨w.heap.size + 1, 0, none⟩ = some (.bool false) := cell_of bq rfl
      have a1 : wr.cell? ⟨w.heap.size + 1, 1, none⟩ = some (.int .i64 0) := cell_of bq rfl
      have a2 : wr.cell? ⟨w.heap.size + 1, 2, none⟩ = some (.int .i64 0) := cell_of bq rfl
      have a3 : wr.cell? ⟨w.heap.size + 1, 3, none⟩ = some (.slice none 0 0) := cell_of bq rfl
      have fy : ∀ j, wr.frozen? ⟨w.heap.size + 1, j, none⟩ = false := fun j => frozen_of bq
      have HF : Hid (∃ g, OwnR WF (.slice px nx cx) g (xk Y 2).N (ub (xk Y 2).A) ∧ (0 < (xk Y 2).N → w.heap.size ≤ g ∧ g < WF.heap.size) ∧ Kb 0 w WF) := (by
        obtain ⟨g, o, hg⟩ := ho
        exact ⟨g, o.block (fun hn => zF.block g (by have := (hg hn).1; omega)), fun hn => ⟨by have := (hg hn).1; omega, by rw [zF.size]; exact (hg hn).2⟩, zF.kb (kw2.trans k2r) (by omega)⟩ : ∃ g, _)
      have HWF : Hid (WF = _) := hWF
      clear hWF bF zF bq HB kw2 b2 z2 k2r hw2D ho HPN HDR HY hi hil
      go_wp2_with fail
      rw [← (show WF = _ from HWF)]
      clear HWF
      refine bodyPost_ret (by simp [results, Try.results28, go_sem, f0, f1, f2, f3]; rfl) rfl ?_
      obtain ⟨g, o, hg, kf⟩ := (show ∃ g, _ from HF)
      refine ⟨_, g, ?_, o, hg, kf⟩
      rw [(show _ ∧ _ ∧ _ from HXX).1, (show _ ∧ _ ∧ _ from HXX).2.1, (show _ ∧ _ ∧ _ from HXX).2.2]
    have hiI : (i : Int) < 2 := by omega
    have HC := (show ∀ i : Nat, i < 2 → _ from HY) i hi dv wr (hX.dr (show Dr w2 dv _ 0 _ _ wD from HDR))
    have HXX : Hid (NI w2 wD (xk Y i) (.slice px nx cx) wr) := hX
    clear hX hil
    go_wp2_with fail
    refine HC.mono ?_
    rintro e wA ⟨vy, g, rfl, oA, hgA, kA⟩
    obtain ⟨py, cy, rfl, -⟩ := oA.sl
    obtain ⟨YO, hYO⟩ : ∃ YO, YO = (Y i).ok := ⟨_, rfl⟩
    obtain ⟨YG, hYG⟩ : ∃ YG, YG = (Y i).G := ⟨_, rfl⟩
    obtain ⟨YS, hYS⟩ : ∃ YS, YS = (Y i).sl := ⟨_, rfl⟩
    obtain ⟨YN, hYN⟩ : ∃ YN, YN = (Y i).N := ⟨_, rfl⟩
    obtain ⟨P6, hP6⟩ : ∃ P6, P6 = wA.heap.size := ⟨_, rfl⟩
    obtain ⟨wB, hwB⟩ : ∃ wB, wB = wA.alloc (.cells #[.bool YO, .int .i64 YG, .int .i64 YS, .slice py YN cy] 51) := ⟨_, rfl⟩
    have kAB : Kb 0 wA wB := by rw [hwB]; exact kb_alloc _ _ _
    have b6 : wB.heap[P6]? = some (.cells #[.bool YO, .int .i64 YG, .int .i64 YS, .slice py YN cy] 51 (0, 0)) := by rw [hwB, hP6]; exact alloc_new _ _ _
    have krB := kA.trans kAB
    have oB := oA.block (W' := wB) (fun hn => kAB.block g (Nat.zero_le _) (hgA hn).2)
    have zB := kAB.size
    have hX := (show NI w2 wD (xk Y i) (.slice px nx cx) wr from HXX)
    obtain ⟨c0, c1, c2, c3, fy⟩ := hX.cells krB
    have e0 : wB.cell? ⟨P6, 0, none⟩ = some (.bool YO) := cell_of b6 rfl
    have e1 : wB.cell? ⟨P6, 1, none⟩ = some (.int .i64 YG) := cell_of b6 rfl
    have e2 : wB.cell? ⟨P6, 2, none⟩ = some (.int .i64 YS) := cell_of b6 rfl
    have e3 : wB.cell? ⟨P6, 3, none⟩ = some (.slice py YN cy) := cell_of b6 rfl
    have bn := (krB.block _ (Nat.zero_le _) hX.sz).trans hX.bl
    obtain ⟨WF, hWF, bF, zF⟩ := four_set (.bool YO) (.int .i64 YG) (.int .i64 YS) (.slice py YN cy) bn
    have HYES : Hid ((xk Y i).G < YG → ∃ px nx cx, NI w2 wD (xk Y (i + 1)) (.slice px nx cx) WF) := (fun hlt => by
      have e : xk Y (i + 1) = Y i := if_pos (by rw [← hYG]; exact hlt)
      rw [e]
      refine ⟨py, YN, cy, hX.put krB (by rw [hYN]; exact oB) (fun hn => ⟨(hgA hn).1, by have := (hgA hn).2; omega⟩) ?_ zF⟩
      rw [← hYO, ← hYG, ← hYS]
      exact bF : _ → _)
    have HNOT : Hid (YG ≤ (xk Y i).G → NI w2 wD (xk Y (i + 1)) (.slice px nx cx) wB) := (fun hlt => by
      have e : xk Y (i + 1) = xk Y i := if_neg (by rw [← hYG]; omega)
      rw [e]
      exact hX.keep krB : _ → _)
    obtain ⟨XG, hXG⟩ : ∃ XG, XG = (xk Y i).G := ⟨_, rfl⟩
    rw [← hXG] at c1 HYES HNOT
    obtain ⟨XO, hXO⟩ : ∃ XO, XO = (xk Y i).ok := ⟨_, rfl⟩
    obtain ⟨XS, hXS⟩ : ∃ XS, XS = (xk Y i).sl := ⟨_, rfl⟩
    rw [← hXO] at c0
    rw [← hXS] at c2
    rw [← (show Pn = _ from HPN)] at c0 c1 c2 c3 fy hWF
    have HWB : Hid (wB = wA.alloc (.cells #[.bool YO, .int .i64 YG, .int .i64 YS, .slice py YN cy] 51) ∧ P6 = wA.heap.size) := (⟨hwB, hP6⟩ : _ ∧ _)
    have HWF : Hid (WF = _) := hWF
    have HYY : Hid (YO = (Y i).ok ∧ YG = (Y i).G ∧ YS = (Y i).sl ∧ YN = (Y i).N) := (⟨hYO, hYG, hYS, hYN⟩ : _ ∧ _)
    rw [← hYO, ← hYG, ← hYS, ← hYN]
    clear HC oA hgA kA hYO hYG hYS hYN hP6 hwB kAB b6 krB oB zB hX bn hWF bF zF hXG hXO hXS HXX
    go_upto_region 9 with fail
    try rw [← (show _ ∧ _ ∧ _ ∧ _ from HYY).1]
    try rw [← (show _ ∧ _ ∧ _ ∧ _ from HYY).2.1]
    try rw [← (show _ ∧ _ ∧ _ ∧ _ from HYY).2.2.1]
    try rw [← (show _ ∧ _ ∧ _ ∧ _ from HYY).2.2.2]
    rw [← (show _ ∧ _ from HWB).1, ← (show _ ∧ _ from HWB).2]
    clear HWB HYY
    by_cases hlt : XG < YG
    · obtain ⟨px', nx', cx', hN⟩ := (show XG < YG → _ from HYES) hlt
      have HN : Hid (NI w2 wD (xk Y (i + 1)) (.slice px' nx' cx') WF) := hN
      clear HYES HNOT hN
      go_wp2_with fail
      rw [← (show WF = _ from HWF)]
      go_roundw
      case rel => exact ⟨i + 1, by go_num, by omega, _, _, _, HN⟩
      case measure => simp [intOf]; omega
    · have HN : Hid (NI w2 wD (xk Y (i + 1)) (.slice px nx cx) wB) := (show YG ≤ XG → _ from HNOT) (by omega)
      clear HYES HNOT HWF
      go_wp2_with fail
      go_roundw
      case rel => exact ⟨i + 1, by go_num, by omega, _, _, _, HN⟩
      case measure => simp [intOf]; omega
end Go.Proofs.Ytaggciimacanbaa.Fo
