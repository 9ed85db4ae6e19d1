import Derived.Test.YtiojjejphdhpeaaMDdc
namespace Go.Proofs.Ytiojjejphdhpeaa.Fo
open Go.ChangeShapes Go.WideShapes Go.ChangeAt Go.RowKit
set_option linter.unusedVariables false
set_option maxRecDepth 100000
set_option linter.unusedSimpArgs false
/-- the pages behind the first k writes -/
def stl (P : Nat → Nat → Int) (Q : Nat → Ed) : Nat → Nat → Nat → Int
  | 0 => P
  | k + 1 => pup (stl P Q k) (Q k).b.toNat (Q k).A
def Z65 : Array Value := (Value.int .i64 0 :: pgl (fun _ => 0)).toArray
theorem und_pend : ∃ d, Try.prog.underlying 140 = some d ∧ d.isRow = true := ⟨_, Try.underlying140, rfl⟩
theorem info_pend : (Try.prog.info? 140).map (·.size) = some 65 := by kernel_rfl
theorem pend_new (W : World) (CE : List Value) (hl : CE.length = 65) (W5 : World) (h : W5 = (W.alloc (.cells Z65 140)).setCells W.heap.size 0 CE) : (W.alloc (.cells Z65 140)).there W.heap.size 0 CE.toArray.size ∧ Kb 0 W W5 ∧ W5.rangeAt W.heap.size 0 CE ∧ W5.heap.size = W.heap.size + 1 := by
  have b1 : (W.alloc (.cells Z65 140)).heap[W.heap.size]? = some (.cells Z65 140 (0, 0)) := alloc_new _ _ _
  have t1 : (W.alloc (.cells Z65 140)).there W.heap.size 0 65 := there_blk b1 0 65 (by show 0 + 65 ≤ 65; omega)
  obtain ⟨g1, g2, g3, g4⟩ := setCells_frame W.heap.size CE 0 (W.alloc (.cells Z65 140))
  rw [← h] at g1 g2 g3 g4
  have ka := kb_alloc 0 W (.cells Z65 140)
  refine ⟨(by rw [hl]; exact t1 : (W.alloc (.cells Z65 140)).there W.heap.size 0 CE.length), ⟨g1.trans ka.os, g2.trans ka.output, by rw [g3]; exact ka.size, fun q h1 h2 => (g4 q (by omega)).trans (ka.block q h1 h2)⟩, ?_, by rw [g3, World.size_alloc]⟩
  rw [h]
  exact World.rangeAt_setCells_same _ _ _ _ (by rw [hl]; exact t1)
set_option maxHeartbeats 16000000 in
theorem im_sync {w0 : World} {dv : Nat} {P : Nat → Nat → Int} {m : Nat} {Q : Nat → Ed} {vw : Value} (w : World) (h : Dr w0 dv P m Q vw w) (hm : m ≤ 200) (hq : ∀ j, j < m → 0 ≤ (Q j).b ∧ (Q j).b < 258) (Q' : Nat → Ed) :
    Calls Try.prog 89 #[.pointer (some ⟨dv, 0, none⟩)] w fun e w' => e = .returned (.tuple #[]) ∧ Dr w0 dv (stl P Q m) 0 Q' (.slice none 0 0) w' := by
  obtain ⟨pv, cv, rfl⟩ := h.shape
  have c0 := h.wt
  have HD0 : Hid (Dr w0 dv (stl P Q 0) m Q (.slice pv m cv) w) := h
  have HQ : Hid (∀ j, j < m → 0 ≤ (Q j).b ∧ (Q j).b < 258) := hq
  clear h hq
  go_enter Try.func89, Try.ntmps89
  go_wp2_with fail
  clear c0
  go_loopw [9] (fun s9 wr => ∃ i : Nat, s9 = .int .i64 (i : Int) ∧ i ≤ m ∧ Hid (Dr w0 dv (stl P Q i) m Q (.slice pv m cv) wr)) (fun s9 _ => m - (intOf s9).toNat)
  case atStart => exact ⟨0, rfl, Nat.zero_le _, HD0⟩
  case round =>
    clear HD0
    obtain ⟨i, rfl, hil, HX⟩ := hrel
    have hX := (show Dr w0 dv (stl P Q i) m Q (.slice pv m cv) wr from HX)
    clear HX
    by_cases hi : i < m
    case neg =>
      obtain rfl : i = m := by omega
      have c0 := hX.wt
      have fz := hX.fz 16512
      have HE : Hid (Dr w0 dv (stl P Q i) 0 Q' (.slice none 0 0) (wr.setCell ⟨dv, 16512, none⟩ (.slice none 0 0))) := hX.empty Q' _ rfl
      clear hX HQ
      go_wp2_with fail
      first | go_ret | (refine Go.Great.bodyPost_end0 rfl rfl ?_)
      exact ⟨rfl, HE⟩
    have hiI : (i : Int) < (m : Int) := by omega
    obtain ⟨g, cap, eg, hgd, hgc, hcell⟩ := own_cells hX.ro (by omega)
    injection eg with eg1 _ eg3
    subst eg1
    subst eg3
    obtain ⟨CE, hCE⟩ : ∃ CE, CE = (Value.int .i64 (Q i).b :: pgl (Q i).A) := ⟨_, rfl⟩
    have hCl : CE.length = 65 := by rw [hCE, List.length_cons, pgl_len]
    have hCr : wr.rangeAt g (i * 65) CE := fun t v hv => by
      have ht : t < 65 := by have := (List.getElem?_eq_some_iff.1 hv).1; omega
      have h2 : (i + 1) * 65 ≤ m * 65 := Nat.mul_le_mul_right 65 hi
      rw [hcell (i * 65 + t) (by omega), pcl_at Q t ht m i hi, ← hCE]
      exact hv
    obtain ⟨W5, hW5⟩ : ∃ W5, W5 = (wr.alloc (.cells Z65 140)).setCells wr.heap.size 0 CE := ⟨_, rfl⟩
    obtain ⟨t5, k5, r5, z5⟩ := pend_new wr CE hCl W5 hW5
    obtain ⟨fb, hfb⟩ : ∃ fb, fb = (Q i).b := ⟨_, rfl⟩
    obtain ⟨PG, hPG⟩ : ∃ PG, PG = pgl (Q i).A := ⟨_, rfl⟩
    obtain ⟨hf0, hf1⟩ := (show ∀ j, j < m → _ from HQ) i hi
    rw [← hfb] at hf0 hf1
    have hc5 : W5.cell? ⟨wr.heap.size, 0, none⟩ = some (.int .i64 fb) := by
      have := r5 0 (.int .i64 fb) (by rw [hCE, hfb]; rfl)
      rw [Nat.zero_add] at this
      exact this
    have hr5 : W5.rangeAt wr.heap.size 1 PG := fun t v hv => by
      have := r5 (t + 1) v (by rw [hCE, List.getElem?_cons_succ, ← hPG]; exact hv)
      rw [show 1 + t = 0 + (t + 1) by omega]
      exact this
    obtain ⟨dR, hdR, hrow⟩ := und_pend
    have HRR : Hid (wr.rangeAt g (i * 65) CE ∧ (Try.prog.info? 140).map (·.size) = some CE.length ∧ (wr.alloc (.cells Z65 140)).there wr.heap.size 0 CE.toArray.size ∧ (Try.prog.info? 140).map (·.size) = some CE.toArray.size ∧ CE.toArray.all (·.oneCell') = true ∧ W5 = (wr.alloc (.cells Z65 140)).setCells wr.heap.size 0 CE ∧ Try.prog.underlying 140 = some dR ∧ dR.isRow = true) := (⟨hCr, by rw [hCl]; exact info_pend, t5, by rw [List.size_toArray, hCl]; exact info_pend, by rw [hCE]; exact all_oneCell_toArray (fun v hv => by rcases List.mem_cons.1 hv with rfl | hv; rfl; exact pgl_one _ v hv), hW5, hdR, hrow⟩ : _ ∧ _)
    have HST : Hid (∀ W, Kb 0 W5 W → W.there dv (fb.toNat * 64) PG.toArray.size ∧ Dr w0 dv (stl P Q (i + 1)) m Q (.slice (some ⟨g, 0, none⟩) m cv) (W.setCells dv (fb.toNat * 64) PG.toArray.toList) ∧ (W.setCells dv (fb.toNat * 64) PG.toArray.toList).cell? ⟨wr.heap.size, 0, none⟩ = some (.int .i64 fb) ∧ (W.setCells dv (fb.toNat * 64) PG.toArray.toList).rangeAt wr.heap.size 1 PG) := (fun W k => by
      have hb : fb.toNat < 258 := by omega
      have hK := hX.keep (k5.trans k)
      have hD := hK.page hb (Q i).A _ rfl
      have hlt := hX.lt
      have far : ∀ o, (W.setCells dv (fb.toNat * 64) (pgl (Q i).A)).cell? ⟨wr.heap.size, o, none⟩ = W.cell? ⟨wr.heap.size, o, none⟩ := fun o => World.cell?_of_block ((setCells_frame dv (pgl (Q i).A) (fb.toNat * 64) W).2.2.2 wr.heap.size (by omega))
      rw [hPG]
      refine ⟨by have := hK.there hb; rw [List.size_toArray, pgl_len]; exact this, ?_, (far 0).trans (k.cell hc5), fun t v hv => (far _).trans (k.cell (hr5 t v (by rw [hPG]; exact hv)))⟩
      rw [stl, ← hfb]
      exact hD : ∀ W, _)
    have HPC : Hid ((Try.prog.info? 92).map (·.size) = some PG.toArray.size ∧ PG.toArray.all (·.oneCell') = true) := (⟨by rw [List.size_toArray, hPG, pgl_len]; exact infoP, by rw [hPG]; exact all_oneCell_toArray (pgl_one _)⟩ : _ ∧ _)
    have HLP : Hid ((Try.prog.info? 92).map (·.size) = some PG.length) := (by rw [hPG, pgl_len]; exact infoP : (Try.prog.info? 92).map (·.size) = some PG.length)
    have HS5 : Hid (W5.cell? ⟨wr.heap.size, 0, none⟩ = some (.int .i64 fb) ∧ W5.rangeAt wr.heap.size 1 PG) := (⟨hc5, hr5⟩ : _ ∧ _)
    clear hX hgd hgc hcell hCE hCl hCr hW5 t5 k5 r5 z5 hfb hPG hc5 hr5 hdR hrow HQ
    go_upto_region 3 with (first | (refine wpList_load_mid (by rfl) 140 (.tmp 11) (by rfl) g (i * 65) (by first | rfl | simp [Act.eval, Addr.add]) CE dR (show _ ∧ _ from HRR).1 (show _ ∧ _ ∧ _ ∧ _ ∧ _ ∧ _ ∧ _ ∧ _ from HRR).2.2.2.2.2.2.1 (show _ ∧ _ ∧ _ ∧ _ ∧ _ ∧ _ ∧ _ ∧ _ from HRR).2.2.2.2.2.2.2 (show _ ∧ _ ∧ _ from HRR).2.1 ?_) | (refine wpList_store_mid (by rfl) 140 (.tmp 3) (.tmp 12) (by rfl) wr.heap.size 0 CE.toArray (by rfl) (by rfl) (show _ ∧ _ ∧ _ ∧ _ from HRR).2.2.1 (show _ ∧ _ ∧ _ ∧ _ ∧ _ from HRR).2.2.2.1 (show _ ∧ _ ∧ _ ∧ _ ∧ _ ∧ _ from HRR).2.2.2.2.1 ?_))
    generalize hwg : World.setCells _ _ _ _ = wg
    have hwe : wg = W5 := hwg.symm.trans (show _ ∧ _ ∧ _ ∧ _ ∧ _ ∧ _ ∧ _ from HRR).2.2.2.2.2.1.symm
    rw [hwe]
    clear hwg hwe HRR
    refine AnyL.region (S := fun W' => (W'.cell? ⟨wr.heap.size, 0, none⟩ = some (.int .i64 fb) ∧ W'.rangeAt wr.heap.size 1 PG)) (z := 100) (by kernel_rfl) ?_
    have hS0 : (fun W' : World => (W'.cell? ⟨wr.heap.size, 0, none⟩ = some (.int .i64 fb) ∧ W'.rangeAt wr.heap.size 1 PG)) W5.drew := HS5
    have HPG := (show ∀ W, Kb 0 W5 W → _ from HST) W5.drew (Kb.drewN (Kb.refl _ _) 1)
    obtain ⟨W0, hW0⟩ : ∃ W0, W0 = W5.drew := ⟨_, rfl⟩
    rw [← hW0] at hS0 HPG ⊢
    have HD6 : Hid (Dr w0 dv (stl P Q (i + 1)) m Q (.slice (some ⟨g, 0, none⟩) m cv) (W0.setCells dv (fb.toNat * 64) PG.toArray.toList)) := HPG.2.1
    have HPG : Hid (W0.there dv (fb.toNat * 64) PG.toArray.size ∧ (W0.setCells dv (fb.toNat * 64) PG.toArray.toList).cell? ⟨wr.heap.size, 0, none⟩ = some (.int .i64 fb) ∧ (W0.setCells dv (fb.toNat * 64) PG.toArray.toList).rangeAt wr.heap.size 1 PG) := (⟨HPG.1, HPG.2.2⟩ : _ ∧ _)
    clear HST hW0 HS5
    refine AnyL.takeAt 0 (.pointer (some ⟨dv, 0, none⟩)) rfl (by kernel_rfl) (by kernel_rfl) (by kernel_rfl) (by kernel_rfl) (fun _ _ _ h => h) rfl hS0 (by intro W hW; first | go_simp | (obtain ⟨i0, i1⟩ := hW; go_simp)) ?_
    try simp only [Act.put, List.setIfInBounds_toArray, List.set_cons_zero, List.set_cons_succ]
    refine AnyL.takeAt 1 (.pointer (some ⟨wr.heap.size, 0, none⟩)) rfl (by kernel_rfl) (by kernel_rfl) (by kernel_rfl) (by kernel_rfl) (fun _ _ _ h => h) rfl hS0 (by intro W hW; first | go_simp | (obtain ⟨i0, i1⟩ := hW; go_simp)) ?_
    try simp only [Act.put, List.setIfInBounds_toArray, List.set_cons_zero, List.set_cons_succ]
    refine AnyL.takeAt 2 (.int .i64 fb) rfl (by kernel_rfl) (by kernel_rfl) (by kernel_rfl) (by kernel_rfl) (fun _ _ _ h => h) rfl hS0 (by intro W hW; first | go_simp | (obtain ⟨i0, i1⟩ := hW; go_simp)) ?_
    try simp only [Act.put, List.setIfInBounds_toArray, List.set_cons_zero, List.set_cons_succ]
    refine AnyL.takeAt 3 (.pointer (some ⟨wr.heap.size, 1, none⟩)) rfl (by kernel_rfl) (by kernel_rfl) (by kernel_rfl) (by kernel_rfl) (fun _ _ _ h => h) rfl hS0 (by intro W hW; first | go_simp | (obtain ⟨i0, i1⟩ := hW; go_simp)) ?_
    try simp only [Act.put, List.setIfInBounds_toArray, List.set_cons_zero, List.set_cons_succ]
    refine AnyL.takeAt 4 (.agg PG.toArray) rfl (by kernel_rfl) (by kernel_rfl) (by kernel_rfl) (by kernel_rfl) (fun _ _ _ h => h) rfl hS0 (fun W hW => exec_load_mid 92 (.tmp 16) rfl wr.heap.size 1 rfl PG _ hW.2 und_page rfl HLP) ?_
    try simp only [Act.put, List.setIfInBounds_toArray, List.set_cons_zero, List.set_cons_succ]
    refine AnyL.takeAt 5 (.pointer (some ⟨dv, 0, none⟩)) rfl (by kernel_rfl) (by kernel_rfl) (by kernel_rfl) (by kernel_rfl) (fun _ _ _ h => h) rfl hS0 (by intro W hW; first | go_simp | (obtain ⟨i0, i1⟩ := hW; go_simp)) ?_
    try simp only [Act.put, List.setIfInBounds_toArray, List.set_cons_zero, List.set_cons_succ]
    refine AnyL.takeAt 6 (.pointer (some ⟨dv, 0, none⟩)) rfl (by kernel_rfl) (by kernel_rfl) (by kernel_rfl) (by kernel_rfl) (fun _ _ _ h => h) rfl hS0 (by intro W hW; first | go_simp | (obtain ⟨i0, i1⟩ := hW; go_simp)) ?_
    try simp only [Act.put, List.setIfInBounds_toArray, List.set_cons_zero, List.set_cons_succ]
    refine AnyL.oneAt 7 rfl (by kernel_rfl) rfl ?_
    intro K hK
    go_simp
    refine hK.out _ _ (fun _ => hS0) ?_
    clear hK K
    try simp only [Act.put, List.setIfInBounds_toArray, List.set_cons_zero, List.set_cons_succ]
    refine AnyL.oneAt 8 rfl (by kernel_rfl) rfl ?_
    intro K hK
    refine wp_store_mid 92 (.tmp 20) (.tmp 17) rfl dv (fb.toNat * 64) PG.toArray (by first | rfl | simp [Act.eval, Addr.add]) rfl (show _ ∧ _ from HPG).1 (show _ ∧ _ from HPC).1 (show _ ∧ _ from HPC).2 ?_
    refine hK.out _ _ (fun _ => (show _ ∧ _ from HPG).2) ?_
    clear hK K
    try simp only [Act.put, List.setIfInBounds_toArray, List.set_cons_zero, List.set_cons_succ]
    refine AnyL.done (by kernel_rfl) ?_
    clear HPG
    go_wp2_with fail
    go_roundw
    case rel => exact ⟨i + 1, by go_num, by omega, HD6⟩
    case measure => simp [intOf]; omega
end Go.Proofs.Ytiojjejphdhpeaa.Fo
