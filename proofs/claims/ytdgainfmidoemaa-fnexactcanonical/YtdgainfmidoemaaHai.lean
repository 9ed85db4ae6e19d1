import Derived.Test.YtdgainfmidoemaaHah
namespace Go.Proofs.Ytdgainfmidoemaa.Fo
open Go.ChangeShapes Go.WideShapes Go.ChangeAt Go.RowKit
set_option linter.unusedVariables false
set_option maxRecDepth 100000
theorem rowtx0 (b : Nat) (W : World) (F : Nat → Td) : RowTX b W (.slice none 0 0) 0 F :=
  ⟨⟨none, 0, rfl, fun h => by omega⟩, 0, fun _ => .slice none 0 0, fun _ => 0, ⟨⟨none, 0, rfl, fun h => by omega⟩, fun h => by omega, fun i hi => by omega, fun i hi => by omega, fun h => by omega, fun i hi => by omega, fun i hi => by omega, fun i j hi => by omega⟩⟩
/-- the answer's block is written -/
theorem s5_kb {w W : World} (k : Kb 0 w W) (hs : w.heap.size + 2 ≤ W.heap.size) (A : Gv) (v : Value) : Kb 0 w (s5 W (w.heap.size + 1) A.k A.m A.x A.r v) := by
  have e1 : (s5 W (w.heap.size + 1) A.k A.m A.x A.r v).os = W.os := by unfold s5 s4; rfl
  have e2 : (s5 W (w.heap.size + 1) A.k A.m A.x A.r v).output = W.output := by unfold s5 s4; rfl
  refine ⟨e1.trans k.os, e2.trans k.output, by rw [s5_size]; omega, fun g _ hg => ?_⟩
  rw [s5_far _ _ _ _ _ _ (by omega)]
  exact k.block g (Nat.zero_le _) hg
set_option maxHeartbeats 16000000 in
theorem im_canonical {a : Gv} {vn : Value} {n : Nat} {F : Nat → Td} (w : World) (ha : RowT 0 w vn n F) (hb : Bg n F a) :
    Calls Try.prog 19 #[grv a vn] w fun e w' => ∃ v, e = .returned (grv (cA n F a) v) ∧ RowTX w.heap.size w' v (cN n F a) (cF n F a) ∧ Kb 0 w w' := by
  obtain ⟨pn, cn, rfl, ha2⟩ := id ha
  clear ha2
  obtain ⟨w2, hw2⟩ : ∃ w2, w2 = (w.alloc (.cells #[.int .i64 a.k, .int .i64 a.m, .string a.x, .int .i64 a.r, .slice pn n cn] 32)).alloc (.cells #[.int .i64 0, .int .i64 0, .string ⟨#[]⟩, .int .i64 0, .slice none 0 0] 32) := ⟨_, rfl⟩
  have k2 : Kb 0 w w2 := by rw [hw2]; exact kb_alloc2 _ _ _ _
  have z2 : w2.heap.size = w.heap.size + 1 + 1 := by rw [hw2]; simp
  have b0 : w2.heap[w.heap.size]? = some (.cells #[.int .i64 a.k, .int .i64 a.m, .string a.x, .int .i64 a.r, .slice pn n cn] 32 (0, 0)) := by
    rw [hw2, (kb_alloc 0 _ _).block _ (Nat.zero_le _) (by rw [World.size_alloc]; omega)]
    exact alloc_new _ _ _
  have b1 : w2.heap[w.heap.size + 1]? = some (.cells #[.int .i64 0, .int .i64 0, .string ⟨#[]⟩, .int .i64 0, .slice none 0 0] 32 (0, 0)) := by
    have e : (w.alloc (.cells #[.int .i64 a.k, .int .i64 a.m, .string a.x, .int .i64 a.r, .slice pn n cn] 32)).heap.size = w.heap.size + 1 := World.size_alloc _ _
    rw [hw2, ← e]
    exact alloc_new _ _ _
  have HW2 : Hid (w2 = (w.alloc (.cells #[.int .i64 a.k, .int .i64 a.m, .string a.x, .int .i64 a.r, .slice pn n cn] 32)).alloc (.cells #[.int .i64 0, .int .i64 0, .string ⟨#[]⟩, .int .i64 0, .slice none 0 0] 32)) := hw2
  have v0 : w2.cell? ⟨w.heap.size, 0, none⟩ = some (.int .i64 a.k) := cell_of b0 rfl
  have v1 : w2.cell? ⟨w.heap.size, 1, none⟩ = some (.int .i64 a.m) := cell_of b0 rfl
  have v2 : w2.cell? ⟨w.heap.size, 2, none⟩ = some (.string a.x) := cell_of b0 rfl
  have v3 : w2.cell? ⟨w.heap.size, 3, none⟩ = some (.int .i64 a.r) := cell_of b0 rfl
  have v4 : w2.cell? ⟨w.heap.size, 4, none⟩ = some (.slice pn n cn) := cell_of b0 rfl
  have hg2 := im_gok w2 (ha.keep k2) hb
  have HGK : Hid (Calls Try.prog 12 #[.agg #[.int .i64 a.k, .int .i64 a.m, .string a.x, .int .i64 a.r, .slice pn n cn]] w2 fun e w' => e = .returned (.bool (dc (Gok n F a))) ∧ Kb 0 w2 w') := hg2
  have HB : Hid (Kb 0 w w2 ∧ w2.heap.size = w.heap.size + 1 + 1 ∧ w2.heap[w.heap.size]? = some (.cells #[.int .i64 a.k, .int .i64 a.m, .string a.x, .int .i64 a.r, .slice pn n cn] 32 (0, 0)) ∧ w2.heap[w.heap.size + 1]? = some (.cells #[.int .i64 0, .int .i64 0, .string ⟨#[]⟩, .int .i64 0, .slice none 0 0] 32 (0, 0)) ∧ RowT 0 w (.slice pn n cn) n F ∧ Bg n F a) := (⟨k2, z2, b0, b1, ha, hb⟩ : _ ∧ _)
  clear k2 z2 b0 b1 hw2 ha hb hg2
  obtain ⟨R, hRc⟩ : ∃ R, R = cA n F a := ⟨_, rfl⟩
  obtain ⟨L, hLc⟩ : ∃ L, L = cN n F a := ⟨_, rfl⟩
  obtain ⟨Fc, hFc⟩ : ∃ Fc, Fc = cF n F a := ⟨_, rfl⟩
  rw [← hRc, ← hLc, ← hFc]
  have HCC : Hid (R = cA n F a ∧ L = cN n F a ∧ Fc = cF n F a) := (⟨hRc, hLc, hFc⟩ : _ ∧ _)
  clear hRc hLc hFc
  unfold grv
  go_enter Try.func19, Try.ntmps19
  go_upto_region 1 with fail
  rw [← (show w2 = _ from HW2)]
  clear HW2
  go_wp2_with fail
  refine (show Calls Try.prog 12 _ w2 _ from HGK).mono ?_
  rintro e w3 ⟨rfl, k3⟩
  clear HGK v0 v1 v2 v3 v4
  obtain ⟨k2, z2, b0, b1, ha, hb⟩ := (show Kb 0 w w2 ∧ w2.heap.size = w.heap.size + 1 + 1 ∧ w2.heap[w.heap.size]? = some (.cells #[.int .i64 a.k, .int .i64 a.m, .string a.x, .int .i64 a.r, .slice pn n cn] 32 (0, 0)) ∧ w2.heap[w.heap.size + 1]? = some (.cells #[.int .i64 0, .int .i64 0, .string ⟨#[]⟩, .int .i64 0, .slice none 0 0] 32 (0, 0)) ∧ RowT 0 w (.slice pn n cn) n F ∧ Bg n F a from HB)
  have g3 := (k3.block (w.heap.size) (Nat.zero_le _) (by omega)).trans b0
  have r3 := (k3.block (w.heap.size + 1) (Nat.zero_le _) (by omega)).trans b1
  have z3 := k3.size
  have kw3 := k2.trans k3
  by_cases hG : Gok n F a
  case neg =>
    rw [dc_f hG]
    obtain rfl : R = ⟨0, 0, ⟨#[]⟩, 0⟩ := (show R = cA n F a ∧ _ from HCC).1.trans (by unfold cA; rw [dc_f hG]; rfl)
    obtain rfl : L = 0 := (show _ ∧ L = cN n F a ∧ _ from HCC).2.1.trans (by unfold cN; rw [dc_f hG]; rfl)
    clear HCC
    have q0 : w3.cell? ⟨w.heap.size + 1, 0, none⟩ = some (.int .i64 0) := cell_of r3 rfl
    have q1 : w3.cell? ⟨w.heap.size + 1, 1, none⟩ = some (.int .i64 0) := cell_of r3 rfl
    have q2 : w3.cell? ⟨w.heap.size + 1, 2, none⟩ = some (.string ⟨#[]⟩) := cell_of r3 rfl
    have q3 : w3.cell? ⟨w.heap.size + 1, 3, none⟩ = some (.int .i64 0) := cell_of r3 rfl
    have q4 : w3.cell? ⟨w.heap.size + 1, 4, none⟩ = some (.slice none 0 0) := cell_of r3 rfl
    have qz : ∀ j, w3.frozen? ⟨w.heap.size + 1, j, none⟩ = false := fun j => frozen_of r3
    obtain ⟨WF, hWF⟩ : ∃ WF, WF = s5 w3 (w.heap.size + 1) 0 0 ⟨#[]⟩ 0 (.slice none 0 0) := ⟨_, rfl⟩
    have hbF : WF.heap[w.heap.size + 1]? = some (.cells #[.int .i64 0, .int .i64 0, .string ⟨#[]⟩, .int .i64 0, .slice none 0 0] 32 (0, 0)) := by rw [hWF]; exact s5_known r3 _ _ _ _ _
    have e0 : WF.cell? ⟨w.heap.size + 1, 0, none⟩ = some (.int .i64 0) := cell_of hbF rfl
    have e1 : WF.cell? ⟨w.heap.size + 1, 1, none⟩ = some (.int .i64 0) := cell_of hbF rfl
    have e2 : WF.cell? ⟨w.heap.size + 1, 2, none⟩ = some (.string ⟨#[]⟩) := cell_of hbF rfl
    have e3 : WF.cell? ⟨w.heap.size + 1, 3, none⟩ = some (.int .i64 0) := cell_of hbF rfl
    have e4 : WF.cell? ⟨w.heap.size + 1, 4, none⟩ = some (.slice none 0 0) := cell_of hbF rfl
    have HK : Hid (Kb 0 w WF) := (by rw [hWF]; exact s5_kb kw3 (by omega) ⟨0, 0, ⟨#[]⟩, 0⟩ (.slice none 0 0) : Kb 0 w WF)
    unfold s5 s4 at hWF
    have HWF : Hid (WF = _) := hWF
    clear hbF hWF r3 g3 z3 kw3 k3 k2 z2 b0 b1 ha hb HB hG
    go_wp2_with fail
    rw [← (show WF = _ from HWF)]
    clear HWF
    refine bodyPost_ret (by simp [results, Try.results19, go_sem, e0, e1, e2, e3, e4]; rfl) rfl ?_
    exact ⟨_, rfl, rowtx0 _ _ _, HK⟩
  rw [dc_t hG]
  obtain ⟨o, ho⟩ : ∃ o, o = cO n F a := ⟨_, rfl⟩
  have hR : R = rnm o a := (show R = cA n F a ∧ _ from HCC).1.trans (by unfold cA; rw [dc_t hG, ho]; rfl)
  have hL0 : L = o.length := (show _ ∧ L = cN n F a ∧ _ from HCC).2.1.trans (by unfold cN; rw [dc_t hG, ho]; rfl)
  obtain rfl : Fc = cnF F o := (show _ ∧ _ ∧ Fc = cF n F a from HCC).2.2.trans (by unfold cF; rw [ho])
  clear HCC
  have HL : Hid (L = o.length) := hL0
  have hxR : R.x.size ≤ 281474976710656 := by rw [hR, rnm_x]; have := hb.hx; omega
  have hxC : ∀ i j, i < o.length → j < (cnF F o i).c → ((cnF F o i).C j).x.size ≤ 281474976710656 := fun i j hi hj => by
    have hnl := nl_cO (gok_lk hG)
    rw [← ho] at hnl
    have hx := (nth_lt hnl hi).1
    show (rnm o ((F (nth o i)).C j)).x.size ≤ _
    rw [rnm_x]
    have := hb.hC _ hx j hj
    omega
  have hcC : ∀ i, i < o.length → ((cnF F o i).c : Int) ≤ 1048576 := fun i hi => by
    have hnl := nl_cO (gok_lk hG)
    rw [← ho] at hnl
    have hx := (nth_lt hnl hi).1
    have := hb.hc _ hx
    show ((F (nth o i)).c : Int) ≤ _
    omega
  have hol : (L : Int) ≤ 1048576 := by
    rw [hL0]
    have hnl := nl_cO (gok_lk hG)
    rw [← ho] at hnl
    have := nl_len _ _ hnl
    have := hb.hn
    omega
  have v0 : w3.cell? ⟨w.heap.size, 0, none⟩ = some (.int .i64 a.k) := cell_of g3 rfl
  have v1 : w3.cell? ⟨w.heap.size, 1, none⟩ = some (.int .i64 a.m) := cell_of g3 rfl
  have v2 : w3.cell? ⟨w.heap.size, 2, none⟩ = some (.string a.x) := cell_of g3 rfl
  have v3 : w3.cell? ⟨w.heap.size, 3, none⟩ = some (.int .i64 a.r) := cell_of g3 rfl
  have v4 : w3.cell? ⟨w.heap.size, 4, none⟩ = some (.slice pn n cn) := cell_of g3 rfl
  have HFM : Hid (Calls Try.prog 43 #[.agg #[.int .i64 a.k, .int .i64 a.m, .string a.x, .int .i64 a.r, .slice pn n cn]] w3 fun e w' => ∃ v V, e = .returned (.agg #[.int .i64 R.k, .int .i64 R.m, .string R.x, .int .i64 R.r, v]) ∧ FE w3 n F o v V w') := ((im_form w3 (ha.keep kw3) hb (gok_lk hG)).mono (fun e w' ⟨v, V, he, hf⟩ => ⟨v, V, by rw [he, hR, ho]; rfl, by rw [ho]; exact hf⟩) : Calls Try.prog 43 _ w3 _)
  have HB3 : Hid (Kb 0 w w3 ∧ w.heap.size + 2 ≤ w3.heap.size ∧ w3.heap[w.heap.size + 1]? = some (.cells #[.int .i64 0, .int .i64 0, .string ⟨#[]⟩, .int .i64 0, .slice none 0 0] 32 (0, 0))) := (⟨kw3, by omega, r3⟩ : _ ∧ _)
  have HBD : Hid ((∀ i j, i < o.length → j < (cnF F o i).c → ((cnF F o i).C j).x.size ≤ 281474976710656) ∧ ∀ i, i < o.length → ((cnF F o i).c : Int) ≤ 1048576) := (⟨hxC, hcC⟩ : _ ∧ _)
  clear hL0 hR ho g3 r3 z3 kw3 k3 k2 z2 b0 b1 ha hb HB hG hxC hcC
  go_wp2_with fail
  refine (show Calls Try.prog 43 _ w3 _ from HFM).mono ?_
  rintro e w4 ⟨v, V, rfl, hFE⟩
  clear HFM v0 v1 v2 v3 v4
  obtain ⟨kw3, hz3, r3⟩ := (show Kb 0 w w3 ∧ w.heap.size + 2 ≤ w3.heap.size ∧ w3.heap[w.heap.size + 1]? = some (.cells #[.int .i64 0, .int .i64 0, .string ⟨#[]⟩, .int .i64 0, .slice none 0 0] 32 (0, 0)) from HB3)
  obtain ⟨pv, cv, rfl⟩ := own_shape hFE.nn
  rw [← (show L = o.length from HL)]
  obtain ⟨w5, hw5⟩ : ∃ w5, w5 = w4.alloc (.cells #[.int .i64 R.k, .int .i64 R.m, .string R.x, .int .i64 R.r, .slice pv L cv] 32) := ⟨_, rfl⟩
  have k5 : Kb 0 w4 w5 := by rw [hw5]; exact kb_alloc _ _ _
  have b5 : w5.heap[w4.heap.size]? = some (.cells #[.int .i64 R.k, .int .i64 R.m, .string R.x, .int .i64 R.r, .slice pv L cv] 32 (0, 0)) := by rw [hw5]; exact alloc_new _ _ _
  obtain ⟨fb, hfb⟩ : ∃ fb, fb = w4.heap.size := ⟨_, rfl⟩
  have kw5 : Kb 0 w w5 := (kw3.trans hFE.kb).trans k5
  have r5 := (((hFE.kb.trans k5).block (w.heap.size + 1) (Nat.zero_le _) (by omega))).trans r3
  have HFE : Hid (FE w3 n F o (.slice pv o.length cv) V w4 ∧ Kb 0 w4 w5 ∧ Kb 0 w w5 ∧ w5.heap[w.heap.size + 1]? = some (.cells #[.int .i64 0, .int .i64 0, .string ⟨#[]⟩, .int .i64 0, .slice none 0 0] 32 (0, 0)) ∧ w5.heap[fb]? = some (.cells #[.int .i64 R.k, .int .i64 R.m, .string R.x, .int .i64 R.r, .slice pv L cv] 32 (0, 0)) ∧ fb < w5.heap.size ∧ w.heap.size + 2 ≤ fb ∧ w.heap.size + 2 ≤ w3.heap.size) := (⟨hFE, k5, kw5, r5, by rw [hfb]; exact b5, by rw [hfb, hw5, World.size_alloc]; omega, by rw [hfb]; have := hFE.kb.size; omega, by omega⟩ : _ ∧ _)
  have HW5 : Hid (w5 = w4.alloc (.cells #[.int .i64 R.k, .int .i64 R.m, .string R.x, .int .i64 R.r, .slice pv L cv] 32)) := hw5
  have f2 : w5.cell? ⟨fb, 2, none⟩ = some (.string R.x) := by rw [hfb]; exact cell_of b5 rfl
  have HCL : Hid (∀ s : ByteArray, s.size ≤ 281474976710656 → ∀ W, Calls Try.prog 44 #[.string s] W fun e w' => e = .returned (.string s) ∧ Kb 0 W w') := (fun s hs W => (im_clone s hs W).mono (fun e w' ⟨he, hb⟩ => ⟨he, Kb.of_below hb 0⟩) : ∀ s : ByteArray, _)
  have HC1 := (show ∀ s : ByteArray, s.size ≤ 281474976710656 → ∀ W, _ from HCL) R.x hxR w5
  clear hFE k5 b5 kw5 r5 hw5 kw3 hz3 r3 HB3 hxR
  go_upto_region 4 with fail
  rw [← (show w5 = _ from HW5), ← hfb]
  clear HW5 hfb
  go_wp2_with fail
  refine HC1.mono ?_
  rintro e w6 ⟨rfl, k6⟩
  clear HC1 f2
  have hall := (show FE w3 n F o (.slice pv o.length cv) V w4 ∧ Kb 0 w4 w5 ∧ Kb 0 w w5 ∧ w5.heap[w.heap.size + 1]? = some (.cells #[.int .i64 0, .int .i64 0, .string ⟨#[]⟩, .int .i64 0, .slice none 0 0] 32 (0, 0)) ∧ w5.heap[fb]? = some (.cells #[.int .i64 R.k, .int .i64 R.m, .string R.x, .int .i64 R.r, .slice pv L cv] 32 (0, 0)) ∧ fb < w5.heap.size ∧ w.heap.size + 2 ≤ fb ∧ w.heap.size + 2 ≤ w3.heap.size from HFE)
  have b6 := (k6.block fb (Nat.zero_le _) hall.2.2.2.2.2.1).trans hall.2.2.2.2.1
  have f2 : w6.cell? ⟨fb, 2, none⟩ = some (.string R.x) := cell_of b6 rfl
  have fz : ∀ j, w6.frozen? ⟨fb, j, none⟩ = false := fun j => frozen_of b6
  obtain ⟨w7, hw7⟩ : ∃ w7, w7 = w6.setCell ⟨fb, 2, none⟩ (.string R.x) := ⟨_, rfl⟩
  have k7 : Kb 0 w6 w7 := by rw [hw7]; exact set_same b6 f2
  have k57 := k6.trans k7
  have f4 : w7.cell? ⟨fb, 4, none⟩ = some (.slice pv L cv) := k7.cell (cell_of b6 rfl)
  have HK7 : Hid (Kb 0 w5 w7) := k57
  have HW7 : Hid (w7 = w6.setCell ⟨fb, 2, none⟩ (.string R.x)) := hw7
  clear hall b6 hw7 k7 k57 k6
  go_upto_region 5 with fail
  rw [← (show w7 = _ from HW7)]
  clear HW7 f2 fz
  go_wp2_with fail
  clear f4
  go_loopw [23] (fun s23 wr => ∃ i : Nat, s23 = .int .i64 (i : Int) ∧ i ≤ L ∧ Hid (Kb 0 w5 wr)) (fun s23 _ => L - (intOf s23).toNat)
  case atStart => exact ⟨0, rfl, Nat.zero_le _, HK7⟩
  case round =>
    clear HK7
    obtain ⟨i, rfl, hi0, HX⟩ := hrel
    have kx := (show Kb 0 w5 wr from HX)
    obtain ⟨hFE, k5, kw5, r5, b5, hfb, hf2, hw3⟩ := (show FE w3 n F o (.slice pv o.length cv) V w4 ∧ Kb 0 w4 w5 ∧ Kb 0 w w5 ∧ w5.heap[w.heap.size + 1]? = some (.cells #[.int .i64 0, .int .i64 0, .string ⟨#[]⟩, .int .i64 0, .slice none 0 0] 32 (0, 0)) ∧ w5.heap[fb]? = some (.cells #[.int .i64 R.k, .int .i64 R.m, .string R.x, .int .i64 R.r, .slice pv L cv] 32 (0, 0)) ∧ fb < w5.heap.size ∧ w.heap.size + 2 ≤ fb ∧ w.heap.size + 2 ≤ w3.heap.size from HFE)
    have hL := (show L = o.length from HL)
    rcases Nat.lt_or_ge i L with hi | hi
    case inr =>
      obtain rfl : i = L := by omega
      have hI : ¬ (i : Int) < (i : Int) := by omega
      have bx := (kx.block fb (Nat.zero_le _) hfb).trans b5
      have rx := (kx.block (w.heap.size + 1) (Nat.zero_le _) (by omega)).trans r5
      have v0 : wr.cell? ⟨fb, 0, none⟩ = some (.int .i64 R.k) := cell_of bx rfl
      have v1 : wr.cell? ⟨fb, 1, none⟩ = some (.int .i64 R.m) := cell_of bx rfl
      have v2 : wr.cell? ⟨fb, 2, none⟩ = some (.string R.x) := cell_of bx rfl
      have v3 : wr.cell? ⟨fb, 3, none⟩ = some (.int .i64 R.r) := cell_of bx rfl
      have v4 : wr.cell? ⟨fb, 4, none⟩ = some (.slice pv i cv) := cell_of bx rfl
      have q0 : wr.cell? ⟨w.heap.size + 1, 0, none⟩ = some (.int .i64 0) := cell_of rx rfl
      have q1 : wr.cell? ⟨w.heap.size + 1, 1, none⟩ = some (.int .i64 0) := cell_of rx rfl
      have q2 : wr.cell? ⟨w.heap.size + 1, 2, none⟩ = some (.string ⟨#[]⟩) := cell_of rx rfl
      have q3 : wr.cell? ⟨w.heap.size + 1, 3, none⟩ = some (.int .i64 0) := cell_of rx rfl
      have q4 : wr.cell? ⟨w.heap.size + 1, 4, none⟩ = some (.slice none 0 0) := cell_of rx rfl
      have qz : ∀ j, wr.frozen? ⟨w.heap.size + 1, j, none⟩ = false := fun j => frozen_of rx
      obtain ⟨WF, hWF⟩ : ∃ WF, WF = s5 wr (w.heap.size + 1) R.k R.m R.x R.r (.slice pv i cv) := ⟨_, rfl⟩
      have hbF : WF.heap[w.heap.size + 1]? = some (.cells #[.int .i64 R.k, .int .i64 R.m, .string R.x, .int .i64 R.r, .slice pv i cv] 32 (0, 0)) := by rw [hWF]; exact s5_known rx _ _ _ _ _
      have e0 : WF.cell? ⟨w.heap.size + 1, 0, none⟩ = some (.int .i64 R.k) := cell_of hbF rfl
      have e1 : WF.cell? ⟨w.heap.size + 1, 1, none⟩ = some (.int .i64 R.m) := cell_of hbF rfl
      have e2 : WF.cell? ⟨w.heap.size + 1, 2, none⟩ = some (.string R.x) := cell_of hbF rfl
      have e3 : WF.cell? ⟨w.heap.size + 1, 3, none⟩ = some (.int .i64 R.r) := cell_of hbF rfl
      have e4 : WF.cell? ⟨w.heap.size + 1, 4, none⟩ = some (.slice pv i cv) := cell_of hbF rfl
      have HE : Hid (RowTX w.heap.size WF (.slice pv i cv) i (cnF F o) ∧ Kb 0 w WF) := (by
        have hzw := kw5.size
        have hzx := kx.size
        refine ⟨?_, by rw [hWF]; exact s5_kb (kw5.trans kx) (by omega) R (.slice pv i cv)⟩
        have hrt2 : RowTX (w.heap.size + 2) w4 (.slice pv o.length cv) o.length (cnF F o) := hFE.tx.mono (by omega)
        rw [← hL] at hrt2
        have kF : Kb (w.heap.size + 2) w4 WF := by
          have kk := k5.trans kx
          rw [hWF]
          exact ⟨kk.os, kk.output, by rw [s5_size]; exact kk.size, fun g h1 h2 => by rw [s5_far _ _ _ _ _ _ (by omega)]; exact kk.block g (Nat.zero_le _) h2⟩
        exact (hrt2.keep kF).mono (by omega) : _ ∧ _)
      unfold s5 s4 at hWF
      have HWF : Hid (WF = _) := hWF
      clear hbF hWF rx bx kx hFE k5 kw5 r5 b5 hfb hf2 hw3 HX HFE hL HL hi HBD HCL
      go_wp2_with fail
      rw [← (show WF = _ from HWF)]
      clear HWF
      refine bodyPost_ret (by simp [results, Try.results19, go_sem, e0, e1, e2, e3, e4]; rfl) rfl ?_
      exact ⟨_, rfl, HE⟩
    have hI : (i : Int) < (L : Int) := by omega
    have k4x := k5.trans kx
    obtain ⟨g, cap', cur, e1, e2, hBg, hlt, hcap, hcur, hcell⟩ := own_blk hFE.nn (by omega)
    injection e1 with e1 _ e3
    subst e1
    subst e3
    obtain ⟨pV, cV, hV⟩ := own_shape (hFE.vs i (by omega))
    have y0 : wr.cell? ⟨g, i * 2, none⟩ = some (.int .i64 (cnF F o i).t) := k4x.cell ((hcell (i * 2) (by omega)).trans (ncl_at F o V (t := 0) (by omega) (by omega)))
    have y1 : wr.cell? ⟨g, i * 2 + 1, none⟩ = some (.slice pV (cnF F o i).c cV) := by
      have := (hcell (i * 2 + 1) (by omega)).trans (ncl_at F o V (t := 1) (k := i) (by omega) (by omega))
      rw [hV] at this
      exact k4x.cell this
    obtain ⟨f, hf⟩ : ∃ f, f = cnF F o i := ⟨_, rfl⟩
    rw [← hf] at y0 y1
    obtain ⟨hxC, hcC⟩ := (show (∀ i j, i < o.length → j < (cnF F o i).c → ((cnF F o i).C j).x.size ≤ 281474976710656) ∧ ∀ i, i < o.length → ((cnF F o i).c : Int) ≤ 1048576 from HBD)
    have hfx : ∀ j, j < f.c → (f.C j).x.size ≤ 281474976710656 := by rw [hf]; exact fun j hj => hxC i j (by omega) hj
    have hfc : (f.c : Int) ≤ 1048576 := by rw [hf]; exact hcC i (by omega)
    have HR : Hid (0 < f.c → ∃ gv cur, pV = some ⟨gv, 0, none⟩ ∧ w4.heap[gv]? = some (.cells cur 29 (0, 0)) ∧ f.c ≤ cV ∧ ∀ j, j < f.c → ∀ t, t < 4 → w4.cell? ⟨gv, j * 4 + t, none⟩ = (gcl (f.C j))[t]?) := (fun hc => by
      have hvs := hFE.vs i (by omega)
      rw [hf] at hc ⊢
      obtain ⟨gv, cap2, cur2, d1, d2, d3, d4, d5, d6, d7⟩ := own_blk hvs hc
      rw [hV] at d1
      injection d1 with d1 _ d8
      exact ⟨gv, cur2, d1, d6, by rw [d8]; exact d5, fun j hj t ht => (d7 (j * 4 + t) (by have : j < (F (nth o i)).c := hj; omega)).trans (vcl_at o _ ht hj)⟩ : 0 < f.c → _)
    obtain ⟨W8, hW8⟩ : ∃ W8, W8 = wr.alloc (.cells #[.int .i64 f.t, .slice pV f.c cV] 56) := ⟨_, rfl⟩
    have k8 : Kb 0 wr W8 := by rw [hW8]; exact kb_alloc _ _ _
    have b8 : W8.heap[wr.heap.size]? = some (.cells #[.int .i64 f.t, .slice pV f.c cV] 56 (0, 0)) := by rw [hW8]; exact alloc_new _ _ _
    have n1 : W8.cell? ⟨wr.heap.size, 1, none⟩ = some (.slice pV f.c cV) := cell_of b8 rfl
    have HW8 : Hid (W8 = wr.alloc (.cells #[.int .i64 f.t, .slice pV f.c cV] 56)) := hW8
    have HK8 : Hid (Kb 0 w5 W8 ∧ W8.heap[wr.heap.size]? = some (.cells #[.int .i64 f.t, .slice pV f.c cV] 56 (0, 0)) ∧ Kb 0 w4 w5 ∧ wr.heap.size < W8.heap.size) := (⟨kx.trans k8, b8, k5, by rw [hW8, World.size_alloc]; omega⟩ : _ ∧ _)
    have HFX : Hid (∀ j, j < f.c → (f.C j).x.size ≤ 281474976710656) := hfx
    clear hxC hcC hfx hf hV hcell hcur hcap hlt hBg e2 k4x HX kx hFE k5 kw5 r5 b5 hfb hf2 hw3 hW8 k8 b8 HBD hL
    go_upto_region 8 with fail
    rw [← (show W8 = _ from HW8)]
    clear HW8 y0 y1
    go_wp2_with fail
    clear n1
    obtain ⟨wo, rfl⟩ : ∃ wo, wo = wr := ⟨_, rfl⟩
    go_loopw [30] (fun s30 wr => ∃ j : Nat, s30 = .int .i64 (j : Int) ∧ j ≤ f.c ∧ Hid (Kb 0 W8 wr)) (fun s30 _ => f.c - (intOf s30).toNat)
    case atStart => exact ⟨0, rfl, Nat.zero_le _, Kb.refl _ _⟩
    case round =>
      obtain ⟨j, rfl, hj0, HX⟩ := hrel
      have kx := (show Kb 0 W8 wr from HX)
      obtain ⟨k58, b8, k45, hlt8⟩ := (show Kb 0 w5 W8 ∧ W8.heap[wo.heap.size]? = some (.cells #[.int .i64 f.t, .slice pV f.c cV] 56 (0, 0)) ∧ Kb 0 w4 w5 ∧ wo.heap.size < W8.heap.size from HK8)
      rcases Nat.lt_or_ge j f.c with hj | hj
      case inr =>
        obtain rfl : j = f.c := by omega
        have hI' : ¬ (f.c : Int) < (f.c : Int) := by omega
        have HN : Hid (Kb 0 w5 wr) := k58.trans kx
        clear HX kx k58 b8 k45 hlt8 HK8 HR HFX HCL HFE HL hj
        go_wp2_with fail
        go_roundw
        case rel => exact ⟨i + 1, by go_num, by omega, HN⟩
        case measure => simp [intOf]; omega
      have hI' : (j : Int) < (f.c : Int) := by omega
      obtain ⟨gv, cur, rfl, hgv, hcv, hcl⟩ := (show 0 < f.c → ∃ gv cur, pV = some ⟨gv, 0, none⟩ ∧ w4.heap[gv]? = some (.cells cur 29 (0, 0)) ∧ f.c ≤ cV ∧ ∀ j, j < f.c → ∀ t, t < 4 → w4.cell? ⟨gv, j * 4 + t, none⟩ = (gcl (f.C j))[t]? from HR) (by omega)
      have kq := (k45.trans k58).trans kx
      obtain ⟨v, hv⟩ : ∃ v, v = f.C j := ⟨_, rfl⟩
      have z0 : wr.cell? ⟨gv, j * 4, none⟩ = some (.int .i64 v.k) := by rw [hv]; exact kq.cell (hcl j hj 0 (by omega))
      have z1 : wr.cell? ⟨gv, j * 4 + 1, none⟩ = some (.int .i64 v.m) := by rw [hv]; exact kq.cell (hcl j hj 1 (by omega))
      have z2 : wr.cell? ⟨gv, j * 4 + 2, none⟩ = some (.string v.x) := by rw [hv]; exact kq.cell (hcl j hj 2 (by omega))
      have z3 : wr.cell? ⟨gv, j * 4 + 3, none⟩ = some (.int .i64 v.r) := by rw [hv]; exact kq.cell (hcl j hj 3 (by omega))
      have hgvl : gv < w4.heap.size := (Array.getElem?_eq_some_iff.1 hgv).1
      have gvx := (kq.block gv (Nat.zero_le _) hgvl).trans hgv
      have bx := (kx.block wo.heap.size (Nat.zero_le _) hlt8).trans b8
      obtain ⟨W9, hW9⟩ : ∃ W9, W9 = wr.alloc (.cells #[.int .i64 v.k, .int .i64 v.m, .string v.x, .int .i64 v.r] 29) := ⟨_, rfl⟩
      have k9 : Kb 0 wr W9 := by rw [hW9]; exact kb_alloc _ _ _
      have b9 : W9.heap[wr.heap.size]? = some (.cells #[.int .i64 v.k, .int .i64 v.m, .string v.x, .int .i64 v.r] 29 (0, 0)) := by rw [hW9]; exact alloc_new _ _ _
      have hws : wo.heap.size < wr.heap.size := by have := kx.size; omega
      have hS0 : W9.cell? ⟨wo.heap.size, 1, none⟩ = some (.slice (some ⟨gv, 0, none⟩) f.c cV) ∧ W9.cell? ⟨wr.heap.size, 2, none⟩ = some (.string v.x) := ⟨k9.cell (cell_of bx rfl), cell_of b9 rfl⟩
      have HST : Hid (∀ w6, Kb 0 W9 w6 → (w6.cell? ⟨wo.heap.size, 1, none⟩ = some (.slice (some ⟨gv, 0, none⟩) f.c cV) ∧ w6.cell? ⟨wr.heap.size, 2, none⟩ = some (.string v.x)) ∧ w6.cell? ⟨gv, j * 4 + 2, none⟩ = some (.string v.x) ∧ (∀ q, w6.frozen? ⟨gv, q, none⟩ = false) ∧ Kb 0 W8 (w6.setCell ⟨gv, j * 4 + 2, none⟩ (.string v.x))) := (fun w6 k6 => by
        have kk := k9.trans k6
        have hg6 := (kk.block gv (Nat.zero_le _) (Array.getElem?_eq_some_iff.1 gvx).1).trans gvx
        exact ⟨⟨k6.cell hS0.1, k6.cell hS0.2⟩, kk.cell z2, fun q => frozen_of hg6, (kx.trans kk).trans (set_same hg6 (kk.cell z2))⟩ : ∀ w6, _)
      have HC := (show ∀ s : ByteArray, s.size ≤ 281474976710656 → ∀ W, _ from HCL) v.x (by rw [hv]; exact (show ∀ j, j < f.c → _ from HFX) j hj)
      have HC9 : Hid (∀ W, Calls Try.prog 44 #[.string v.x] W fun e w' => e = .returned (.string v.x) ∧ Kb 0 W w') := HC
      have HW9 : Hid (W9 = wr.alloc (.cells #[.int .i64 v.k, .int .i64 v.m, .string v.x, .int .i64 v.r] 29)) := hW9
      clear HX kx k58 b8 k45 hlt8 HK8 HR HFX HCL HFE HL hj0 hcl hgv kq hgvl gvx bx hW9 k9 b9 hws HC hv
      go_upto_region 11 with fail
      rw [← (show W9 = _ from HW9)]
      clear HW9 z0 z1 z2 z3
      · refine AnyL.region (S := fun W' => W'.cell? ⟨wo.heap.size, 1, none⟩ = some (.slice (some ⟨gv, 0, none⟩) f.c cV) ∧ W'.cell? ⟨wr.heap.size, 2, none⟩ = some (.string v.x)) (z := 8) (by kernel_rfl) ?_
        have hS1 : (fun W' : World => W'.cell? ⟨wo.heap.size, 1, none⟩ = some (.slice (some ⟨gv, 0, none⟩) f.c cV) ∧ W'.cell? ⟨wr.heap.size, 2, none⟩ = some (.string v.x)) W9.drew := hS0
        clear hS0
        refine AnyL.takeAt 0 (.pointer (some ⟨wo.heap.size, 1, none⟩)) rfl (by kernel_rfl) (by kernel_rfl) (by kernel_rfl) (by kernel_rfl) (fun _ _ _ h => h) rfl hS1 (by intro W hW; first | go_simp | (obtain ⟨i0, i1⟩ := hW; go_simp)) ?_
        try simp only [Act.put, List.setIfInBounds_toArray, List.set_cons_zero, List.set_cons_succ]
        refine AnyL.takeAt 1 (.slice (some ⟨gv, 0, none⟩) f.c cV) rfl (by kernel_rfl) (by kernel_rfl) (by kernel_rfl) (by kernel_rfl) (fun _ _ _ h => h) rfl hS1 (by intro W hW; first | go_simp | (obtain ⟨i0, i1⟩ := hW; go_simp)) ?_
        try simp only [Act.put, List.setIfInBounds_toArray, List.set_cons_zero, List.set_cons_succ]
        refine AnyL.takeAt 2 (.int .i64 (j : Int)) rfl (by kernel_rfl) (by kernel_rfl) (by kernel_rfl) (by kernel_rfl) (fun _ _ _ h => h) rfl hS1 (by intro W hW; first | go_simp | (obtain ⟨i0, i1⟩ := hW; go_simp)) ?_
        try simp only [Act.put, List.setIfInBounds_toArray, List.set_cons_zero, List.set_cons_succ]
        refine AnyL.takeAt 3 (.pointer (some ⟨wr.heap.size, 2, none⟩)) rfl (by kernel_rfl) (by kernel_rfl) (by kernel_rfl) (by kernel_rfl) (fun _ _ _ h => h) rfl hS1 (by intro W hW; first | go_simp | (obtain ⟨i0, i1⟩ := hW; go_simp)) ?_
        try simp only [Act.put, List.setIfInBounds_toArray, List.set_cons_zero, List.set_cons_succ]
        refine AnyL.takeAt 4 (.string v.x) rfl (by kernel_rfl) (by kernel_rfl) (by kernel_rfl) (by kernel_rfl) (fun _ _ _ h => h) rfl hS1 (by intro W hW; first | go_simp | (obtain ⟨i0, i1⟩ := hW; go_simp)) ?_
        try simp only [Act.put, List.setIfInBounds_toArray, List.set_cons_zero, List.set_cons_succ]
        refine AnyL.oneAt 5 rfl (by kernel_rfl) rfl ?_
        intro K hK
        go_simp
        refine ((show ∀ W, Calls Try.prog 44 #[.string v.x] W _ from HC9) _).mono ?_
        rintro e w6 ⟨rfl, k6⟩
        obtain ⟨hS6, x1, x2, hK6⟩ := (show ∀ w6, Kb 0 W9 w6 → _ from HST) w6 (by exact Kb.trans (Kb.drewN (Kb.refl _ _) 1) k6)
        have HK6 : Hid (Kb 0 W8 (w6.setCell ⟨gv, j * 4 + 2, none⟩ (.string v.x))) := hK6
        clear HC9 HST hS1 k6 hK6
        refine hK.out _ _ (fun _ => hS6) ?_
        clear hK K
        try simp only [Act.put, List.setIfInBounds_toArray, List.set_cons_zero, List.set_cons_succ]
        refine AnyL.oneAt 6 rfl (by kernel_rfl) rfl ?_
        intro K hK
        go_simp
        refine hK.out _ _ (fun _ => hS6) ?_
        clear hK K
        try simp only [Act.put, List.setIfInBounds_toArray, List.set_cons_zero, List.set_cons_succ]
        refine AnyL.oneAt 7 rfl (by kernel_rfl) rfl ?_
        intro K hK
        go_simp
        refine hK.out _ _ (fun _ => hS6) ?_
        clear hK K
        try simp only [Act.put, List.setIfInBounds_toArray, List.set_cons_zero, List.set_cons_succ]
        refine AnyL.oneAt 8 rfl (by kernel_rfl) rfl ?_
        intro K hK
        go_simp
        refine hK.out _ _ (fun h => absurd rfl h) ?_
        clear hK K hS6 x1 x2
        try simp only [Act.put, List.setIfInBounds_toArray, List.set_cons_zero, List.set_cons_succ]
        refine AnyL.done (by kernel_rfl) ?_
        go_wp2_with fail
        go_roundw
        case rel => exact ⟨j + 1, by go_num, by omega, HK6⟩
        case measure => simp [intOf]; omega
end Go.Proofs.Ytdgainfmidoemaa.Fo
