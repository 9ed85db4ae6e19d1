import Derived.Test.YtdgainfmidoemaaMGef
namespace Go.Proofs.Ytdgainfmidoemaa.Fo
open Go.ChangeShapes Go.WideShapes Go.ChangeAt Go.RowKit
set_option linter.unusedVariables false
set_option maxRecDepth 100000
/-- five cells of the result are written -/
structure S5E (w W : World) (A : Gv) (v : Value) (m : Nat) (Fc : Nat → Td) : Prop where
  b : (s5 W (w.heap.size + 1) A.k A.m A.x A.r v).heap[w.heap.size + 1]? = some (.cells #[.int .i64 A.k, .int .i64 A.m, .string A.x, .int .i64 A.r, v] 32 (0, 0))
  r : RowT w.heap.size (s5 W (w.heap.size + 1) A.k A.m A.x A.r v) v m Fc
  k : Kb 0 w (s5 W (w.heap.size + 1) A.k A.m A.x A.r v)
theorem s5_end {w W : World} {A : Gv} {v : Value} {m : Nat} {Fc : Nat → Td} (kW : Kb 0 w W) (hs : w.heap.size + 2 ≤ W.heap.size) (hr : RowT (w.heap.size + 2) W v m Fc) (hbW : W.heap[w.heap.size + 1]? = some (.cells #[.int .i64 0, .int .i64 0, .string ⟨#[]⟩, .int .i64 0, .slice none 0 0] 32 (0, 0))) : S5E w W A v m Fc := by
  obtain ⟨X, hX⟩ : ∃ X, X = s5 W (w.heap.size + 1) A.k A.m A.x A.r v := ⟨_, rfl⟩
  have hf : ∀ g, g ≠ w.heap.size + 1 → X.heap[g]? = W.heap[g]? := fun g hg => by rw [hX]; exact s5_far _ _ _ _ _ _ hg
  have hz : X.heap.size = W.heap.size := by rw [hX]; exact s5_size _ _ _ _ _ _ _
  have ho : X.os = W.os := by rw [hX]; unfold s5 s4; rfl
  have hu : X.output = W.output := by rw [hX]; unfold s5 s4; rfl
  have k1 : Kb (w.heap.size + 2) W X := ⟨ho, hu, by omega, fun g hg _ => hf g (by omega)⟩
  have k2 : Kb 0 w X := ⟨ho.trans kW.os, hu.trans kW.output, by have := kW.size; omega, fun g _ hg => (hf g (by omega)).trans (kW.block g (Nat.zero_le _) hg)⟩
  have r1 : RowT w.heap.size X v m Fc := (hr.keep k1).mono (by omega)
  refine ⟨s5_known hbW _ _ _ _ _, ?_, ?_⟩
  · rw [← hX]; exact r1
  · rw [← hX]; exact k2
set_option maxHeartbeats 8000000 in
theorem sp_canonical {a : Gv} {vn : Value} {n : Nat} {F : Nat → Td} (w : World) (ha : RowT 0 w vn n F) (hb : Bg n F a) :
    Calls Try.prog 18 #[grv a vn] w fun e w' => ∃ v, e = .returned (grv (cA n F a) v) ∧ RowT w.heap.size w' v (cN n F a) (cF n F a) ∧ Kb 0 w w' := by
  obtain ⟨pn, cn, rfl, ha2⟩ := id ha
  clear ha2
  obtain ⟨w2, hw2⟩ : ∃ w2, w2 = (w.alloc (.cells #[.int .i64 a.k, .int .i64 a.m, .string a.x, .int .i64 a.r, .slice pn n cn] 32)).alloc (.cells #[.int .i64 0, .int .i64 0, .string ⟨#[]⟩, .int .i64 0, .slice none 0 0] 32) := ⟨_, rfl⟩
  have e1 : (w.alloc (.cells #[.int .i64 a.k, .int .i64 a.m, .string a.x, .int .i64 a.r, .slice pn n cn] 32)).heap.size = w.heap.size + 1 := World.size_alloc _ _
  have k2 : Kb 0 w w2 := by rw [hw2]; exact kb_alloc2 _ _ _ _
  have z2 : w2.heap.size = w.heap.size + 2 := by rw [hw2]; simp
  have b0 : w2.heap[w.heap.size]? = some (.cells #[.int .i64 a.k, .int .i64 a.m, .string a.x, .int .i64 a.r, .slice pn n cn] 32 (0, 0)) := by
    rw [hw2, (kb_alloc 0 _ _).block _ (Nat.zero_le _) (by omega)]
    exact alloc_new _ _ _
  have b1 : w2.heap[w.heap.size + 1]? = some (.cells #[.int .i64 0, .int .i64 0, .string ⟨#[]⟩, .int .i64 0, .slice none 0 0] 32 (0, 0)) := by
    rw [hw2, ← e1]
    exact alloc_new _ _ _
  have HG := sp_gok w2 (ha.keep k2) hb
  unfold grv at HG
  have u0 : w2.cell? ⟨w.heap.size, 0, none⟩ = some (.int .i64 a.k) := cell_of b0 rfl
  have u1 : w2.cell? ⟨w.heap.size, 1, none⟩ = some (.int .i64 a.m) := cell_of b0 rfl
  have u2 : w2.cell? ⟨w.heap.size, 2, none⟩ = some (.string a.x) := cell_of b0 rfl
  have u3 : w2.cell? ⟨w.heap.size, 3, none⟩ = some (.int .i64 a.r) := cell_of b0 rfl
  have u4 : w2.cell? ⟨w.heap.size, 4, none⟩ = some (.slice pn n cn) := cell_of b0 rfl
  have HB : Hid (Kb 0 w w2 ∧ w2.heap.size = w.heap.size + 2 ∧ w2.heap[w.heap.size]? = some (.cells #[.int .i64 a.k, .int .i64 a.m, .string a.x, .int .i64 a.r, .slice pn n cn] 32 (0, 0)) ∧ w2.heap[w.heap.size + 1]? = some (.cells #[.int .i64 0, .int .i64 0, .string ⟨#[]⟩, .int .i64 0, .slice none 0 0] 32 (0, 0)) ∧ RowT 0 w (.slice pn n cn) n F ∧ Bg n F a) := (⟨k2, z2, b0, b1, ha, hb⟩ : _ ∧ _)
  have HW2 : Hid (w2 = (w.alloc (.cells #[.int .i64 a.k, .int .i64 a.m, .string a.x, .int .i64 a.r, .slice pn n cn] 32)).alloc (.cells #[.int .i64 0, .int .i64 0, .string ⟨#[]⟩, .int .i64 0, .slice none 0 0] 32)) := hw2
  have HEND : Hid (∀ (W : World) (A : Gv) (v : Value) (m : Nat) (Fc : Nat → Td), Kb 0 w W → w.heap.size + 2 ≤ W.heap.size → RowT (w.heap.size + 2) W v m Fc → W.heap[w.heap.size + 1]? = some (.cells #[.int .i64 0, .int .i64 0, .string ⟨#[]⟩, .int .i64 0, .slice none 0 0] 32 (0, 0)) → S5E w W A v m Fc) := (fun W A v m Fc kW hs hr hbW => s5_end kW hs hr hbW : ∀ (W : World) (A : Gv) (v : Value) (m : Nat) (Fc : Nat → Td), Kb 0 w W → w.heap.size + 2 ≤ W.heap.size → RowT (w.heap.size + 2) W v m Fc → W.heap[w.heap.size + 1]? = some (.cells #[.int .i64 0, .int .i64 0, .string ⟨#[]⟩, .int .i64 0, .slice none 0 0] 32 (0, 0)) → S5E w W A v m Fc)
  clear ha hb e1 k2 z2 b0 b1 hw2
  unfold grv
  go_enter Try.func18, Try.ntmps18
  go_upto_region 1 with fail
  rw [← (show w2 = _ from HW2)]
  clear HW2
  go_wp2_with fail
  refine HG.mono ?_
  rintro e w3 ⟨rfl, k3⟩
  clear HG u0 u1 u2 u3 u4
  obtain ⟨k2, z2, b0, b1, ha, hb⟩ := (show Kb 0 w w2 ∧ w2.heap.size = w.heap.size + 2 ∧ w2.heap[w.heap.size]? = some (.cells #[.int .i64 a.k, .int .i64 a.m, .string a.x, .int .i64 a.r, .slice pn n cn] 32 (0, 0)) ∧ w2.heap[w.heap.size + 1]? = some (.cells #[.int .i64 0, .int .i64 0, .string ⟨#[]⟩, .int .i64 0, .slice none 0 0] 32 (0, 0)) ∧ RowT 0 w (.slice pn n cn) n F ∧ Bg n F a from HB)
  have c1 : w3.heap[w.heap.size + 1]? = some (.cells #[.int .i64 0, .int .i64 0, .string ⟨#[]⟩, .int .i64 0, .slice none 0 0] 32 (0, 0)) := (k3.block _ (Nat.zero_le _) (by omega)).trans b1
  by_cases h : Gok n F a
  case neg =>
    rw [dc_f h]
    have r0 : w3.cell? ⟨w.heap.size + 1, 0, none⟩ = some (.int .i64 0) := cell_of c1 rfl
    have r1 : w3.cell? ⟨w.heap.size + 1, 1, none⟩ = some (.int .i64 0) := cell_of c1 rfl
    have r2 : w3.cell? ⟨w.heap.size + 1, 2, none⟩ = some (.string ⟨#[]⟩) := cell_of c1 rfl
    have r3 : w3.cell? ⟨w.heap.size + 1, 3, none⟩ = some (.int .i64 0) := cell_of c1 rfl
    have r4 : w3.cell? ⟨w.heap.size + 1, 4, none⟩ = some (.slice none 0 0) := cell_of c1 rfl
    have rz : ∀ j, w3.frozen? ⟨w.heap.size + 1, j, none⟩ = false := fun j => frozen_of c1
    have HE2 : Hid (S5E w w3 ⟨0, 0, ⟨#[]⟩, 0⟩ (.slice none 0 0) 0 (cF n F a)) := s5_end (k2.trans k3) (by have := k3.size; omega) ⟨_, _, rfl, fun q => by omega⟩ c1
    clear k2 z2 b0 b1 ha hb c1 k3 HB HEND
    go_wp2_with fail
    obtain ⟨WF, hWF⟩ : ∃ WF, WF = s5 w3 (w.heap.size + 1) 0 0 ⟨#[]⟩ 0 (.slice none 0 0) := ⟨_, rfl⟩
    obtain ⟨q0, q1, q2⟩ := (show S5E w w3 ⟨0, 0, ⟨#[]⟩, 0⟩ (.slice none 0 0) 0 (cF n F a) from HE2)
    dsimp only at q0 q1 q2
    rw [← hWF] at q0 q1 q2
    have e0 : WF.cell? ⟨w.heap.size + 1, 0, none⟩ = some (.int .i64 0) := cell_of q0 rfl
    have e1 : WF.cell? ⟨w.heap.size + 1, 1, none⟩ = some (.int .i64 0) := cell_of q0 rfl
    have e2 : WF.cell? ⟨w.heap.size + 1, 2, none⟩ = some (.string ⟨#[]⟩) := cell_of q0 rfl
    have e3 : WF.cell? ⟨w.heap.size + 1, 3, none⟩ = some (.int .i64 0) := cell_of q0 rfl
    have e4 : WF.cell? ⟨w.heap.size + 1, 4, none⟩ = some (.slice none 0 0) := cell_of q0 rfl
    unfold s5 s4 at hWF
    rw [← hWF]
    clear hWF HE2 r0 r1 r2 r3 r4 rz
    refine bodyPost_ret (by simp [results, Try.results18, go_sem, e0, e1, e2, e3, e4]; rfl) rfl ?_
    unfold cA cN
    rw [if_neg (by rw [dc_f h]; decide), if_neg (by rw [dc_f h]; decide)]
    exact ⟨_, rfl, q1, q2⟩
  rw [dc_t h]
  have kk := k2.trans k3
  have d0 : w3.heap[w.heap.size]? = some (.cells #[.int .i64 a.k, .int .i64 a.m, .string a.x, .int .i64 a.r, .slice pn n cn] 32 (0, 0)) := (k3.block _ (Nat.zero_le _) (by omega)).trans b0
  have u0 : w3.cell? ⟨w.heap.size, 0, none⟩ = some (.int .i64 a.k) := cell_of d0 rfl
  have u1 : w3.cell? ⟨w.heap.size, 1, none⟩ = some (.int .i64 a.m) := cell_of d0 rfl
  have u2 : w3.cell? ⟨w.heap.size, 2, none⟩ = some (.string a.x) := cell_of d0 rfl
  have u3 : w3.cell? ⟨w.heap.size, 3, none⟩ = some (.int .i64 a.r) := cell_of d0 rfl
  have u4 : w3.cell? ⟨w.heap.size, 4, none⟩ = some (.slice pn n cn) := cell_of d0 rfl
  have HC := sp_canon w3 (ha.keep kk) hb (gok_lk h)
  obtain ⟨OO, hOO⟩ : ∃ OO, OO = ords F (ext [] a) n := ⟨_, rfl⟩
  rw [← hOO] at HC
  unfold grv at HC
  obtain ⟨RA, hRA⟩ : ∃ RA, RA = rnm OO a := ⟨_, rfl⟩
  rw [← hRA] at HC
  have HX : Hid (Kb 0 w w3 ∧ w.heap.size + 2 ≤ w3.heap.size ∧ w3.heap[w.heap.size + 1]? = some (.cells #[.int .i64 0, .int .i64 0, .string ⟨#[]⟩, .int .i64 0, .slice none 0 0] 32 (0, 0)) ∧ OO = cO n F a ∧ RA = rnm OO a) := (⟨kk, by have := k3.size; omega, c1, hOO, hRA⟩ : _ ∧ _)
  clear k2 z2 b0 b1 ha hb c1 k3 HB kk d0 hOO hRA
  go_wp2_with fail
  refine HC.mono ?_
  rintro e w4 ⟨v, rfl, rv, k4⟩
  clear HC u0 u1 u2 u3 u4
  obtain ⟨kk, zz, c1, hOO, hRA⟩ := (show Kb 0 w w3 ∧ w.heap.size + 2 ≤ w3.heap.size ∧ w3.heap[w.heap.size + 1]? = some (.cells #[.int .i64 0, .int .i64 0, .string ⟨#[]⟩, .int .i64 0, .slice none 0 0] 32 (0, 0)) ∧ OO = cO n F a ∧ RA = rnm OO a from HX)
  replace c1 := (k4.block _ (Nat.zero_le _) (by omega)).trans c1
  have r0 : w4.cell? ⟨w.heap.size + 1, 0, none⟩ = some (.int .i64 0) := cell_of c1 rfl
  have r1 : w4.cell? ⟨w.heap.size + 1, 1, none⟩ = some (.int .i64 0) := cell_of c1 rfl
  have r2 : w4.cell? ⟨w.heap.size + 1, 2, none⟩ = some (.string ⟨#[]⟩) := cell_of c1 rfl
  have r3 : w4.cell? ⟨w.heap.size + 1, 3, none⟩ = some (.int .i64 0) := cell_of c1 rfl
  have r4 : w4.cell? ⟨w.heap.size + 1, 4, none⟩ = some (.slice none 0 0) := cell_of c1 rfl
  have rz : ∀ j, w4.frozen? ⟨w.heap.size + 1, j, none⟩ = false := fun j => frozen_of c1
  have HE2 : Hid (S5E w w4 RA v OO.length (cnF F OO)) := s5_end (kk.trans k4) (by have := k4.size; omega) (rv.mono zz) c1
  obtain ⟨pv, cv, rfl, _⟩ := id rv
  have HX2 : Hid (OO = cO n F a ∧ RA = rnm OO a) := (⟨hOO, hRA⟩ : _ ∧ _)
  clear kk zz c1 hOO hRA HX HEND rv k4
  go_wp2_with fail
  obtain ⟨WF, hWF⟩ : ∃ WF, WF = s5 w4 (w.heap.size + 1) RA.k RA.m RA.x RA.r (.slice pv OO.length cv) := ⟨_, rfl⟩
  obtain ⟨q0, q1, q2⟩ := (show S5E w w4 RA (.slice pv OO.length cv) OO.length (cnF F OO) from HE2)
  rw [← hWF] at q0 q1 q2
  have e0 : WF.cell? ⟨w.heap.size + 1, 0, none⟩ = some (.int .i64 RA.k) := cell_of q0 rfl
  have e1 : WF.cell? ⟨w.heap.size + 1, 1, none⟩ = some (.int .i64 RA.m) := cell_of q0 rfl
  have e2 : WF.cell? ⟨w.heap.size + 1, 2, none⟩ = some (.string RA.x) := cell_of q0 rfl
  have e3 : WF.cell? ⟨w.heap.size + 1, 3, none⟩ = some (.int .i64 RA.r) := cell_of q0 rfl
  have e4 : WF.cell? ⟨w.heap.size + 1, 4, none⟩ = some (.slice pv OO.length cv) := cell_of q0 rfl
  unfold s5 s4 at hWF
  rw [← hWF]
  clear hWF HE2 r0 r1 r2 r3 r4 rz
  refine bodyPost_ret (by simp [results, Try.results18, go_sem, e0, e1, e2, e3, e4]; rfl) rfl ?_
  obtain ⟨hOO, hRA⟩ := (show OO = cO n F a ∧ RA = rnm OO a from HX2)
  unfold cA cN cF
  rw [if_pos (dc_t h), if_pos (dc_t h), ← hOO, ← hRA]
  exact ⟨_, rfl, q1, q2⟩
end Go.Proofs.Ytdgainfmidoemaa.Fo
