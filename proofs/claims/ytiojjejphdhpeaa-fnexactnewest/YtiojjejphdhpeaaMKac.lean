import Derived.Test.YtiojjejphdhpeaaMKaa
import Derived.Test.YtiojjejphdhpeaaMKab
namespace Go.Proofs.Ytiojjejphdhpeaa.Fo
open Go.ChangeShapes Go.WideShapes Go.ChangeAt Go.RowKit
set_option linter.unusedVariables false
set_option maxRecDepth 100000
/-- eight bytes of a number -/
def n8 (n : Int) : List Int := eig (n % 18446744073709551616).toNat 8
def hd28 (g l s : Int) : List Int := (([72, 69, 65, 68] ++ n8 g) ++ n8 l) ++ n8 s
def hd36 (g l s : Int) : List Int := hd28 g l s ++ eig (sm64 (hd28 g l s)) 8
/-- the block of a head -/
def hdb (g l s : Int) : Nat → Int := pad 36 (fun i => (hd36 g l s).getD i 0)
def Hok (ok : Bool) (g l : Int) : Prop := ok = true ∧ 1 ≤ g ∧ g ≤ 1000000000000 ∧ 1 ≤ l ∧ l ≤ 8192
theorem n8_len (n : Int) : (n8 n).length = 8 := eig_len _ _
theorem hd28_len (g l s : Int) : (hd28 g l s).length = 28 := by unfold hd28; simp [n8_len]
theorem hd36_len (g l s : Int) : (hd36 g l s).length = 36 := by unfold hd36; rw [List.length_append, hd28_len, eig_len]
theorem hd28_bok (g l s : Int) : Bok (hd28 g l s) := by
  unfold hd28 n8
  exact (((show Bok [72, 69, 65, 68] from fun x hx => by simp at hx; omega).app (eig_bok _ _)).app (eig_bok _ _)).app (eig_bok _ _)
theorem hd36_bok (g l s : Int) : Bok (hd36 g l s) := (hd28_bok g l s).app (eig_bok _ _)
theorem hdb_rg (g l s : Int) (i : Nat) : 0 ≤ hdb g l s i ∧ hdb g l s i ≤ 255 := by
  unfold hdb pad
  split
  · rename_i h
    exact bok_getD (hd36_bok g l s) i (by rw [hd36_len]; exact h)
  · omega
theorem wrap64_back2 {x : Int} (h0 : 0 ≤ x) (h1 : x < 18446744073709551616) : wrap64 x % 18446744073709551616 = x := by unfold wrap64; omega
set_option maxHeartbeats 8000000 in
theorem im_head_no {ok : Bool} {g l s : Int} (w : World) (h : ¬ Hok ok g l) :
    Calls Try.prog 71 #[.agg #[.bool ok, .int .i64 g, .int .i64 l, .int .i64 s]] w fun e w' => e = .returned (.slice none 0 0) ∧ Kb 0 w w' := by
  cases ok with
  | false =>
    clear h
    go_enter Try.func71, Try.ntmps71
    go_wp2_with fail
    go_ret
    exact ⟨rfl, kb_alloc _ _ _⟩
  | true =>
    by_cases h1 : g < 1
    · clear h
      go_enter Try.func71, Try.ntmps71
      go_wp2_with fail
      go_ret
      exact ⟨rfl, kb_alloc _ _ _⟩
    by_cases h2 : 1000000000000 < g
    · clear h
      go_enter Try.func71, Try.ntmps71
      go_wp2_with fail
      go_ret
      exact ⟨rfl, kb_alloc _ _ _⟩
    by_cases h3 : l < 1
    · clear h
      go_enter Try.func71, Try.ntmps71
      go_wp2_with fail
      go_ret
      exact ⟨rfl, kb_alloc _ _ _⟩
    have h4 : 8192 < l := by
      rcases Int.lt_or_le 8192 l with q | q
      · exact q
      · exact (h ⟨rfl, by omega, by omega, by omega, q⟩).elim
    clear h
    go_enter Try.func71, Try.ntmps71
    go_wp2_with fail
    go_ret
    exact ⟨rfl, kb_alloc _ _ _⟩
set_option maxHeartbeats 16000000 in
theorem im_head_yes {ok : Bool} {g l s : Int} (w : World) (h : Hok ok g l) (hs0 : -9223372036854775808 ≤ s) (hs1 : s ≤ 9223372036854775807) :
    Calls Try.prog 71 #[.agg #[.bool ok, .int .i64 g, .int .i64 l, .int .i64 s]] w fun e w' => ∃ b, e = .returned (.slice (some ⟨b, 0, none⟩) 64 64) ∧ w.heap.size ≤ b ∧ b < w'.heap.size ∧ OwnR w' (.slice (some ⟨b, 0, none⟩) 64 64) b 64 (fun i => .int .u8 (hdb g l s i)) ∧ Kb 0 w w' := by
  obtain ⟨rfl, h1, h2, h3, h4⟩ := h
  have g1 : ¬ g < 1 := by omega
  have g2 : ¬ 1000000000000 < g := by omega
  have g3 : ¬ l < 1 := by omega
  have g4 : ¬ 8192 < l := by omega
  obtain ⟨w3, hw3⟩ : ∃ w3, w3 = w.alloc (.cells #[.bool true, .int .i64 g, .int .i64 l, .int .i64 s] 46) := ⟨_, rfl⟩
  have k03 : Kb 0 w w3 := by rw [hw3]; exact kb_alloc _ _ _
  have z3 : w3.heap.size = w.heap.size + 1 := by rw [hw3]; simp
  have b3 : w3.heap[w.heap.size]? = some (.cells #[.bool true, .int .i64 g, .int .i64 l, .int .i64 s] 46 (0, 0)) := by rw [hw3]; exact alloc_new _ _ _
  obtain ⟨w4, hw4⟩ : ∃ w4, w4 = w3.alloc (.cells #[.slice none 0 0, .int .i64 64, .bool false] 136) := ⟨_, rfl⟩
  have k4 : Kb 0 w3 w4 := by rw [hw4]; exact kb_alloc _ _ _
  have z4 : w4.heap.size = w3.heap.size + 1 := by rw [hw4]; simp
  have b4 : w4.heap[w3.heap.size]? = some (.cells #[.slice none 0 0, .int .i64 64, .bool false] 136 (0, 0)) := by rw [hw4]; exact alloc_new _ _ _
  obtain ⟨wb, hwb⟩ : ∃ wb, wb = w.heap.size + 1 := ⟨_, rfl⟩
  have hwb3 : wb = w3.heap.size := by omega
  rw [← hwb3] at b4
  have hws : WS6 (wb + 1) wb [] w4 := ⟨by omega, by omega, bok_nil, _, _, _, [], b4, World.ownsRow_nil _ _ _ _, by simp, bok_nil, .inl ⟨rfl, rfl, by simp⟩⟩
  obtain ⟨w5, hw5⟩ : ∃ w5, w5 = w4.alloc (.cells #[.int .u8 72, .int .u8 69, .int .u8 65, .int .u8 68] 5 (4, 5)) := ⟨_, rfl⟩
  have k5 : Kb 0 w4 w5 := by rw [hw5]; exact kb_alloc _ _ _
  have HP1 := im_put6 (c := 4) (ad := ⟨w4.heap.size, 0, none⟩) [72, 69, 65, 68] (hws.call k5) (by show w4.heap.size ≠ wb; omega) (by rw [hw5]; exact qr_cells2 w4 #[.int .u8 72, .int .u8 69, .int .u8 65, .int .u8 68] 5 (4, 5) _ rfl) (by simp) (fun x hx => by simp at hx; omega)
  have hcv := Lib.run_convert_bytes_const (P := Try.prog) w4 26 5 #[.int .u8 72, .int .u8 69, .int .u8 65, .int .u8 68] 4 4 Try.underlying26 Try.underlying5
  have HB : Hid (Kb 0 w w5 ∧ w5.heap[w.heap.size]? = some (.cells #[.bool true, .int .i64 g, .int .i64 l, .int .i64 s] 46 (0, 0)) ∧ wb = w.heap.size + 1 ∧ w.heap.size + 2 ≤ w5.heap.size) := (⟨(k03.trans k4).trans k5, (k5.block _ (Nat.zero_le _) (by omega)).trans ((k4.block _ (Nat.zero_le _) (by omega)).trans b3), hwb, by have := k5.size; omega⟩ : _ ∧ _)
  have HW3 : Hid (w3 = w.alloc (.cells #[.bool true, .int .i64 g, .int .i64 l, .int .i64 s] 46)) := hw3
  have HW4 : Hid (w4 = w3.alloc (.cells #[.slice none 0 0, .int .i64 64, .bool false] 136) ∧ wb = w.heap.size + 1) := (⟨hw4, hwb⟩ : _ ∧ _)
  have HW5 : Hid (w5 = w4.alloc (.cells #[.int .u8 72, .int .u8 69, .int .u8 65, .int .u8 68] 5 (4, 5))) := hw5
  have HR : Hid (1 ≤ g ∧ g ≤ 1000000000000 ∧ 1 ≤ l ∧ l ≤ 8192) := (⟨h1, h2, h3, h4⟩ : _ ∧ _)
  have HS : Hid (-9223372036854775808 ≤ s ∧ s ≤ 9223372036854775807) := (⟨hs0, hs1⟩ : _ ∧ _)
  clear hw3 k03 z3 b3 hw4 k4 z4 b4 hwb hwb3 hws hw5 k5 h1 h2 h3 h4 hs0 hs1
  go_enter Try.func71, Try.ntmps71
  go_upto_region 4 with fail
  rw [← (show w3 = _ from HW3), ← (show _ ∧ _ from HW4).1, ← (show _ ∧ _ from HW4).2]
  clear HW3 HW4 g1 g2 g3 g4
  go_wp2_with fail
  rw [← (show w5 = _ from HW5)]
  clear HW5 hcv
  refine HP1.mono ?_
  rintro e w6 ⟨rfl, y1, y2⟩
  clear HP1
  have HY6 : Hid (Kw (wb + 1) wb w5 w6) := y2
  have c6 : w6.cell? ⟨w.heap.size, 1, none⟩ = some (.int .i64 g) := cell_of ((show Kw (wb + 1) wb w5 w6 from HY6).cells (show _ ∧ _ ∧ _ from HB).2.1 (by decide) (by have := (show _ ∧ _ ∧ _ ∧ _ from HB).2.2.1; omega)) rfl
  have HE6 := im_eight6 g (by have := (show _ ∧ _ ∧ _ ∧ _ from HR).1; omega) (by have := (show _ ∧ _ ∧ _ ∧ _ from HR).2.1; omega) y1
  clear y1 y2
  go_upto_region 6 with (go_at_call 105; refine HE6.mono ?_; rintro e w7 ⟨rfl, y1, y2⟩)
  have HY7 : Hid (Kw (wb + 1) wb w5 w7) := (show Kw (wb + 1) wb w5 w6 from HY6).trans y2
  clear HE6 c6 HY6
  have c7 : w7.cell? ⟨w.heap.size, 2, none⟩ = some (.int .i64 l) := cell_of ((show Kw (wb + 1) wb w5 w7 from HY7).cells (show _ ∧ _ ∧ _ from HB).2.1 (by decide) (by have := (show _ ∧ _ ∧ _ ∧ _ from HB).2.2.1; omega)) rfl
  have HE7 := im_eight6 l (by have := (show _ ∧ _ ∧ _ ∧ _ from HR).2.2.1; omega) (by have := (show _ ∧ _ ∧ _ ∧ _ from HR).2.2.2; omega) y1
  clear y1 y2
  go_upto_region 7 with (go_at_call 105; refine HE7.mono ?_; rintro e w8 ⟨rfl, y1, y2⟩)
  have HY8 : Hid (Kw (wb + 1) wb w5 w8) := (show Kw (wb + 1) wb w5 w7 from HY7).trans y2
  clear HE7 c7 HY7
  have c8 : w8.cell? ⟨w.heap.size, 3, none⟩ = some (.int .i64 s) := cell_of ((show Kw (wb + 1) wb w5 w8 from HY8).cells (show _ ∧ _ ∧ _ from HB).2.1 (by decide) (by have := (show _ ∧ _ ∧ _ ∧ _ from HB).2.2.1; omega)) rfl
  have HE8 := im_eight6 s (show _ ∧ _ from HS).1 (show _ ∧ _ from HS).2 y1
  clear y1 y2
  go_upto_region 8 with (go_at_call 105; refine HE8.mono ?_; rintro e w9 ⟨rfl, y1, y2⟩)
  have HY9 : Hid (Kw (wb + 1) wb w5 w9) := (show Kw (wb + 1) wb w5 w8 from HY8).trans y2
  clear HE8 c8 HY8
  obtain ⟨L28, hL28⟩ : ∃ L, L = hd28 g l s := ⟨_, rfl⟩
  have y28 : WS6 (wb + 1) wb L28 w9 := by rw [hL28]; exact y1
  clear y1 y2
  have hl28 : L28.length = 28 := by rw [hL28]; exact hd28_len g l s
  obtain ⟨h0, hBz, hbk, im, lf, lo, l1, q2, q3, q4, q5, q6⟩ := id y28
  obtain ⟨rfl, rfl, rfl⟩ : lo = false ∧ l1 = L28 ∧ lf = 64 - (L28.length : Int) := by
    rcases q6 with q | q
    · exact q
    · have := q.2; omega
  have i0 : w9.cell? ⟨wb, 0, none⟩ = some im := cell_of q2 rfl
  have HSM := im_sumof w9 (own_rowv q3) (by omega) (bok_getD q5)
  obtain ⟨S, hS⟩ : ∃ S, S = sgz (fun i => l1.getD i 0) l1.length := ⟨_, rfl⟩
  rw [← hS] at HSM
  have hsr : (-9223372036854775808 ≤ S ∧ S ≤ 9223372036854775807) ∧ (S % 18446744073709551616).toNat = sm64 l1 := by
    have q := smz_rg (fun i => l1.getD i 0) l1.length
    have e : S = wrap64 (smz (fun i => l1.getD i 0) l1.length) := hS
    rw [e]
    exact ⟨wrap64_rg _, by rw [wrap64_back2 q.1 q.2]; rfl⟩
  have H9 : Hid (WS6 (wb + 1) wb l1 w9 ∧ ((-9223372036854775808 ≤ S ∧ S ≤ 9223372036854775807) ∧ (S % 18446744073709551616).toNat = sm64 l1) ∧ l1 = hd28 g l s ∧ l1.length = 28) := (⟨y28, hsr, hL28, hl28⟩ : _ ∧ _)
  obtain ⟨pi, ci, rfl⟩ := own_shape q3
  clear y28 h0 hBz hbk q2 q3 q4 q5 q6 hS hsr hL28 hl28
  go_wp2_with fail
  refine HSM.mono ?_
  rintro e w10 ⟨rfl, k10⟩
  clear HSM i0
  obtain ⟨y28, hsr, hL28, hl28⟩ := (show _ ∧ _ ∧ _ ∧ _ from H9)
  have HE := im_eight6 S hsr.1.1 hsr.1.2 (y28.call k10)
  rw [hsr.2] at HE
  have HY10 : Hid (Kw (wb + 1) wb w5 w10) := (show Kw (wb + 1) wb w5 w9 from HY9).trans (Kw.of_kb k10)
  clear HY9 y28 hsr hL28 hl28 k10
  go_wp2_with fail
  refine HE.mono ?_
  rintro e w11 ⟨rfl, y1, y2⟩
  clear HE
  obtain ⟨-, -, hL28, hl28⟩ := (show _ ∧ _ ∧ _ ∧ _ from H9)
  have k11 := (show Kw (wb + 1) wb w5 w10 from HY10).trans y2
  obtain ⟨kw5, b5, hwb, hz5⟩ := (show _ ∧ _ ∧ _ ∧ _ from HB)
  have kw11 : Kb 0 w w11 := k11.kb kw5 (by omega) (by omega)
  obtain ⟨h0, hBz, hbk, im, lf, lo, l2, q2, q3, q4, q5, q6⟩ := y1
  obtain ⟨rfl, hl2, rfl⟩ : lo = false ∧ l2 = l1 ++ eig (sm64 l1) 8 ∧ lf = 64 - ((l1 ++ eig (sm64 l1) 8).length : Int) := by
    rcases q6 with q | q
    · exact q
    · have := q.2
      rw [List.length_append, eig_len] at this
      omega
  have hl36 : l2 = hd36 g l s := by rw [hl2, hL28]; rfl
  have hn36 : l2.length = 36 := by rw [hl36]; exact hd36_len g l s
  have i0 : w11.cell? ⟨wb, 0, none⟩ = some im := cell_of q2 rfl
  have HPG := im_pageof w11 (own_rowv q3) (by omega)
  have hpad : pgl (pad l2.length (fun i => l2.getD i 0)) = pgl (hdb g l s) := by rw [hn36, hl36]; rfl
  rw [hpad] at HPG
  have HK : Hid (Kb 0 w w11) := kw11
  obtain ⟨pi, ci, rfl⟩ := own_shape q3
  clear H9 hL28 hl28 k11 kw5 b5 hwb hz5 kw11 h0 hBz hbk q2 q3 q4 q5 q6 hl2 hl36 hn36 hpad HY10 y2 HB HR HS
  go_wp2_with fail
  refine HPG.mono ?_
  rintro e w12 ⟨rfl, k12⟩
  have HBY := im_bytes (cs := (pgl (hdb g l s)).toArray) w12
  have HK12 : Hid (Kb 0 w w12) := (show Kb 0 w w11 from HK).trans k12
  clear HPG i0 HK k12
  go_wp2_with fail
  refine HBY.mono ?_
  rintro e w13 ⟨rfl, hw13⟩
  have k12 := (show Kb 0 w w12 from HK12)
  have HF : Hid (w.heap.size ≤ w12.heap.size ∧ w12.heap.size < w13.heap.size ∧ OwnR w13 (.slice (some ⟨w12.heap.size, 0, none⟩) 64 64) w12.heap.size 64 (fun i => .int .u8 (hdb g l s i)) ∧ Kb 0 w w13) := (⟨k12.size, by rw [hw13]; simp, own_page hw13, by rw [hw13]; exact k12.alloc _⟩ : _ ∧ _)
  clear HBY hw13 k12 HK12
  go_wp2_with fail
  go_ret
  exact ⟨w12.heap.size, rfl, HF⟩
end Go.Proofs.Ytiojjejphdhpeaa.Fo
