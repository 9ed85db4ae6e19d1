import Derived.Test.YtbbjbojjglhgmaaKaf
namespace Go.Proofs.Ytbbjbojjglhgmaa.Fo
open Go.ChangeShapes Go.WideShapes Go.ChangeAt Go.RowKit
set_option linter.unusedVariables false
set_option maxRecDepth 100000
theorem Kb.mkd {a w w' : World} {b : Nat} {S : Nat → Prop} (h : Kb b a w) (k : Kq S w w') (hS : ∀ q, S q → q < b ∨ a.heap.size ≤ q) : Kb b a w' :=
  ⟨k.os.trans h.os, k.output.trans h.output, Nat.le_trans h.size k.size, fun q h1 h2 => (k.block q (Nat.lt_of_lt_of_le h2 h.size) (fun hs => by rcases hS q hs with e | e <;> omega)).trans (h.block q h1 h2)⟩
set_option maxHeartbeats 4000000 in
theorem to_head {ok : Bool} {g l s : Int} (w : World) :
    Calls Try.prog 48 #[.agg #[.bool ok, .int .i64 g, .int .i64 l, .int .i64 s]] w fun e w' => e = .returned (.agg #[.bool ok, .int .i64 g, .int .i64 l, .int .i64 s]) ∧ Kb 0 w w' := by
  go_enter Try.func48, Try.ntmps48
  go_wp2_with fail
  refine bodyPost_ret (by simp [results, Try.results48, go_sem]; rfl) rfl ?_
  exact ⟨rfl, kb_alloc3 _ _ _ _ _⟩
/-- how many bytes a head's block has -/
noncomputable def hN (ok : Bool) (g l : Int) : Nat := if dc (Hok ok g l) = true then 64 else 0
theorem im_head {ok : Bool} {g l s : Int} (w : World) (hs0 : -9223372036854775808 ≤ s) (hs1 : s ≤ 9223372036854775807) :
    Calls Try.prog 49 #[.agg #[.bool ok, .int .i64 g, .int .i64 l, .int .i64 s]] w fun e w' => ∃ v b, e = .returned v ∧ w.heap.size ≤ b ∧ OwnR w' v b (hN ok g l) (fun i => .int .u8 (hdb g l s i)) ∧ Kb 0 w w' := by
  by_cases h : Hok ok g l
  · have e : hN ok g l = 64 := by unfold hN; rw [if_pos (dc_t h)]
    rw [e]
    exact (im_head_yes w h hs0 hs1).mono (fun e w' ⟨b, h1, h2, h3, h4, h5⟩ => ⟨_, b, h1, h2, h4, h5⟩)
  · have e : hN ok g l = 0 := by unfold hN; rw [if_neg (by rw [dc_f h]; decide)]
    rw [e]
    exact (im_head_no w h).mono (fun e w' ⟨h1, h2⟩ => ⟨_, w.heap.size, h1, Nat.le_refl _, ⟨⟨none, 0, rfl, fun q => absurd q (Nat.lt_irrefl 0)⟩, fun i hi => by omega, fun q => absurd q (Nat.lt_irrefl 0)⟩, h2⟩)
theorem sp_head2 {ok : Bool} {g l s : Int} (w : World) :
    Calls Try.prog 47 #[.agg #[.bool ok, .int .i64 g, .int .i64 l, .int .i64 s]] w fun e w' => ∃ v, e = .returned v ∧ RowB 0 w' v (hN ok g l) (fun i => .int .u8 (hdb g l s i)) ∧ Kb 0 w w' := by
  refine (sp_head (ok := ok) (g := g) (l := l) (s := s) w).mono (fun e w' ⟨v, h1, h2, h3, h4⟩ => ⟨v, h1, ?_, h4⟩)
  by_cases h : Hok ok g l
  · have e : hN ok g l = 64 := by unfold hN; rw [if_pos (dc_t h)]
    rw [e]
    exact (h2 h).mono (Nat.zero_le _)
  · have e : hN ok g l = 0 := by unfold hN; rw [if_neg (by rw [dc_f h]; decide)]
    rw [e, h3 h]
    exact ⟨none, 0, rfl, fun q => absurd q (Nat.lt_irrefl 0)⟩
theorem hN_le (ok : Bool) (g l : Int) : hN ok g l ≤ 64 := by unfold hN; split <;> omega
set_option maxHeartbeats 16000000 in
theorem law_head {ok : Bool} {g l s : Int} (w : World) (hs0 : -9223372036854775808 ≤ s) (hs1 : s ≤ 9223372036854775807) :
    Calls Try.prog 11 #[.agg #[.bool ok, .int .i64 g, .int .i64 l, .int .i64 s]] w fun e w' => e = .returned (.bool true) ∧ Kb 0 w w' := by
  obtain ⟨n, hn⟩ : ∃ n, n = hN ok g l := ⟨_, rfl⟩
  have hn64 : n ≤ 1048576 := by have := hN_le ok g l; omega
  have HTO : Hid (∀ W, Calls Try.prog 48 #[.agg #[.bool ok, .int .i64 g, .int .i64 l, .int .i64 s]] W fun e w' => e = .returned (.agg #[.bool ok, .int .i64 g, .int .i64 l, .int .i64 s]) ∧ Kb 0 W w') := (fun W => to_head W : ∀ W, _)
  have HIM : Hid (∀ W : World, Calls Try.prog 49 #[.agg #[.bool ok, .int .i64 g, .int .i64 l, .int .i64 s]] W fun e w' => ∃ v b, e = .returned v ∧ W.heap.size ≤ b ∧ OwnR w' v b n (fun i => .int .u8 (hdb g l s i)) ∧ Kb 0 W w') := (by rw [hn]; exact fun W => im_head W hs0 hs1 : ∀ W : World, _)
  have HSP : Hid (∀ W : World, Calls Try.prog 47 #[.agg #[.bool ok, .int .i64 g, .int .i64 l, .int .i64 s]] W fun e w' => ∃ v, e = .returned v ∧ RowB 0 w' v n (fun i => .int .u8 (hdb g l s i)) ∧ Kb 0 W w') := (by rw [hn]; exact fun W => sp_head2 W : ∀ W : World, _)
  clear hs0 hs1 hn
  obtain ⟨w0, hw0⟩ : ∃ w0, w0 = w.alloc (.cells #[.bool ok, .int .i64 g, .int .i64 l, .int .i64 s] 67) := ⟨_, rfl⟩
  have k0 : Kb 0 w w0 := by rw [hw0]; exact kb_alloc _ _ _
  have b0 : w0.heap[w.heap.size]? = some (.cells #[.bool ok, .int .i64 g, .int .i64 l, .int .i64 s] 67 (0, 0)) := by rw [hw0]; exact alloc_new _ _ _
  have c0 : w0.cell? ⟨w.heap.size, 0, none⟩ = some (.bool ok) := cell_of b0 rfl
  have c1 : w0.cell? ⟨w.heap.size, 1, none⟩ = some (.int .i64 g) := cell_of b0 rfl
  have c2 : w0.cell? ⟨w.heap.size, 2, none⟩ = some (.int .i64 l) := cell_of b0 rfl
  have c3 : w0.cell? ⟨w.heap.size, 3, none⟩ = some (.int .i64 s) := cell_of b0 rfl
  have HT0 := (show ∀ W, _ from HTO) w0
  have HB : Hid (Kb 0 w w0 ∧ w0.heap[w.heap.size]? = some (.cells #[.bool ok, .int .i64 g, .int .i64 l, .int .i64 s] 67 (0, 0)) ∧ w.heap.size < w0.heap.size) := (⟨k0, b0, (Array.getElem?_eq_some_iff.1 b0).1⟩ : _ ∧ _)
  have HN : Hid (n ≤ 1048576) := hn64
  have HW0 : Hid (w0 = _) := hw0
  clear hw0 k0 b0 hn64
  go_enter Try.func11, Try.ntmps11
  go_upto_region 1 with fail
  rw [← (show w0 = _ from HW0)]
  clear HW0
  go_wp2_with fail
  refine HT0.mono ?_
  rintro e w1 ⟨rfl, k1⟩
  clear HT0 c0 c1 c2 c3
  have HS1 := (show ∀ W : World, _ from HSP) w1
  have HK1 : Hid (Kb 0 w0 w1) := k1
  clear HSP k1
  go_wp2_with fail
  refine HS1.mono ?_
  rintro e w2 ⟨v2, rfl, r2, k2⟩
  clear HS1
  obtain ⟨p2, q2, rfl, -⟩ := id r2
  obtain ⟨k0, b0, z0⟩ := (show _ ∧ _ ∧ _ from HB)
  have k02 := (show Kb 0 w0 w1 from HK1).trans k2
  have b2 := (k02.block _ (Nat.zero_le _) z0).trans b0
  have c0 : w2.cell? ⟨w.heap.size, 0, none⟩ = some (.bool ok) := cell_of b2 rfl
  have c1 : w2.cell? ⟨w.heap.size, 1, none⟩ = some (.int .i64 g) := cell_of b2 rfl
  have c2 : w2.cell? ⟨w.heap.size, 2, none⟩ = some (.int .i64 l) := cell_of b2 rfl
  have c3 : w2.cell? ⟨w.heap.size, 3, none⟩ = some (.int .i64 s) := cell_of b2 rfl
  have HT2 := (show ∀ W, _ from HTO) w2
  have H2 : Hid (Kb 0 w w2 ∧ RowB 0 w2 (.slice p2 n q2) n (fun i => .int .u8 (hdb g l s i)) ∧ w2.heap[w.heap.size]? = some (.cells #[.bool ok, .int .i64 g, .int .i64 l, .int .i64 s] 67 (0, 0)) ∧ w.heap.size < w2.heap.size) := (⟨k0.trans k02, r2, b2, by have := k02.size; omega⟩ : _ ∧ _)
  clear k0 b0 z0 k02 b2 r2 k2 HB HK1
  go_wp2_with fail
  refine HT2.mono ?_
  rintro e w3 ⟨rfl, k3⟩
  clear HT2 c0 c1 c2 c3
  have HI3 := (show ∀ W : World, _ from HIM) w3
  have HK3 : Hid (Kb 0 w2 w3) := k3
  clear k3
  go_wp2_with fail
  refine HI3.mono ?_
  rintro e w4 ⟨v4, b4, rfl, z4, o4, k4⟩
  clear HI3
  obtain ⟨p4, q4, rfl, -⟩ := id o4.sl
  obtain ⟨kw2, r2, b2, z2⟩ := (show _ ∧ _ ∧ _ ∧ _ from H2)
  have k23 := (show Kb 0 w2 w3 from HK3)
  have k24 := k23.trans k4
  have HE4 := eq_byts w4 o4.row ((r2.keep k24).row) (show n ≤ 1048576 from HN)
  have H4 : Hid (Kb 0 w2 w4 ∧ OwnR w4 (.slice p4 n q4) b4 n (fun i => .int .u8 (hdb g l s i)) ∧ w2.heap.size ≤ b4) := (⟨k24, o4, by have := k23.size; omega⟩ : _ ∧ _)
  clear kw2 r2 b2 z2 k23 k24 o4 k4 z4 HK3
  go_wp2_with fail
  refine HE4.mono ?_
  rintro e w5 ⟨rfl, d5, hw5⟩
  clear HE4
  obtain ⟨k24, o4, z4⟩ := (show _ ∧ _ ∧ _ from H4)
  have k45 : Kb 0 w4 w5 := by rw [hw5]; exact (Kb.refl 0 w4).drewN d5
  have o5 : OwnR w5 (.slice p4 n q4) b4 n (fun i => .int .u8 (hdb g l s i)) := o4.kb (fun hne => k45.block b4 (Nat.zero_le _) (lt_of_cell (o4.cell 0 (by omega))))
  have HM := mark_byts w5 1 o5 (show n ≤ 1048576 from HN) (by omega) (by omega)
  have H5 : Hid (Kb 0 w2 w5 ∧ w2.heap.size ≤ b4) := (⟨k24.trans k45, z4⟩ : _ ∧ _)
  obtain ⟨K, hK⟩ : ∃ K : Int, K = 1 + (n : Int) := ⟨_, rfl⟩
  rw [← hK] at HM
  have hK0 : ¬ K < 0 := by omega
  have hK1 : (K != K) = false := by simp
  have HKK : Hid (K = 1 + (n : Int)) := hK
  clear k24 o4 z4 k45 o5 hw5 H4 hK
  go_wp2_with fail
  refine HM.mono ?_
  rintro e w6 ⟨rfl, kq6, o6⟩
  clear HM
  obtain ⟨k25, z4⟩ := (show _ ∧ _ from H5)
  have k26 : Kb 0 w2 w6 := k25.mkd kq6 (fun q hq => .inr (by omega))
  have HH := held_byts w6 1 o6.row (show n ≤ 1048576 from HN) (by omega) (by omega)
  rw [← (show K = _ from HKK)] at HH
  have H6 : Hid (Kb 0 w2 w6 ∧ OwnR w6 (.slice p4 n q4) b4 n (fun i => .int .u8 ((1 + (i : Int)) % 256))) := (⟨k26, o6⟩ : _ ∧ _)
  clear k25 z4 k26 kq6 o6 H5
  go_wp2_with fail
  refine HH.mono ?_
  rintro e w7 ⟨rfl, d7, hw7⟩
  clear HH
  obtain ⟨k26, o6⟩ := (show _ ∧ _ from H6)
  obtain ⟨kw2, r2, b2, z2⟩ := (show _ ∧ _ ∧ _ ∧ _ from H2)
  have k67 : Kb 0 w6 w7 := by rw [hw7]; exact (Kb.refl 0 w6).drewN d7
  have b7 := ((k26.trans k67).block _ (Nat.zero_le _) z2).trans b2
  have c0 : w7.cell? ⟨w.heap.size, 0, none⟩ = some (.bool ok) := cell_of b7 rfl
  have c1 : w7.cell? ⟨w.heap.size, 1, none⟩ = some (.int .i64 g) := cell_of b7 rfl
  have c2 : w7.cell? ⟨w.heap.size, 2, none⟩ = some (.int .i64 l) := cell_of b7 rfl
  have c3 : w7.cell? ⟨w.heap.size, 3, none⟩ = some (.int .i64 s) := cell_of b7 rfl
  have HT7 := (show ∀ W, _ from HTO) w7
  have H7 : Hid (Kb 0 w6 w7) := k67
  clear k26 o6 kw2 r2 b2 z2 k67 b7 hw7 HTO
  go_wp2_with fail
  refine HT7.mono ?_
  rintro e w8 ⟨rfl, k8⟩
  clear HT7 c0 c1 c2 c3
  have HI8 := (show ∀ W : World, _ from HIM) w8
  have H8 : Hid (Kb 0 w6 w8) := (show Kb 0 w6 w7 from H7).trans k8
  clear k8 H7 HIM
  go_wp2_with fail
  refine HI8.mono ?_
  rintro e w9 ⟨v9, b9, rfl, z9, o9, k9⟩
  clear HI8
  obtain ⟨p9, q9, rfl, -⟩ := id o9.sl
  obtain ⟨k26, o6⟩ := (show _ ∧ _ from H6)
  obtain ⟨kw2, r2, b2, z2⟩ := (show _ ∧ _ ∧ _ ∧ _ from H2)
  have k69 := (show Kb 0 w6 w8 from H8).trans k9
  have HE9 := eq_byts w9 o9.row ((r2.keep (k26.trans k69)).row) (show n ≤ 1048576 from HN)
  have H9 : Hid (Kb 0 w6 w9) := k69
  clear k26 o6 kw2 r2 b2 z2 k69 o9 z9 k9 H8
  go_wp2_with fail
  refine HE9.mono ?_
  rintro e w10 ⟨rfl, d10, hw10⟩
  clear HE9
  obtain ⟨k26, o6⟩ := (show _ ∧ _ from H6)
  obtain ⟨kw2, r2, b2, z2⟩ := (show _ ∧ _ ∧ _ ∧ _ from H2)
  have k610 : Kb 0 w6 w10 := by rw [hw10]; exact (show Kb 0 w6 w9 from H9).drewN d10
  have o10 : OwnR w10 (.slice p4 n q4) b4 n (fun i => .int .u8 ((1 + (i : Int)) % 256)) := o6.kb (fun hne => k610.block b4 (Nat.zero_le _) (lt_of_cell (o6.cell 0 (by omega))))
  have HH := held_byts w10 1 o10.row (show n ≤ 1048576 from HN) (by omega) (by omega)
  rw [← (show K = _ from HKK)] at HH
  have H10 : Hid (Kb 0 w w10) := kw2.trans (k26.trans k610)
  clear k26 o6 kw2 r2 b2 z2 k610 o10 hw10 H9 H6 H2 HKK HN
  go_wp2_with fail
  refine HH.mono ?_
  rintro e w11 ⟨rfl, d11, hw11⟩
  have HF : Hid (Kb 0 w w11) := by rw [hw11]; exact (show Kb 0 w w10 from H10).drewN d11
  clear HH hw11 H10
  go_wp2_with fail
  go_ret
  exact ⟨rfl, HF⟩
end Go.Proofs.Ytbbjbojjglhgmaa.Fo
