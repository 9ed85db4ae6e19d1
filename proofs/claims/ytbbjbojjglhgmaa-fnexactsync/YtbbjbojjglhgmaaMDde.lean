import Derived.Test.YtbbjbojjglhgmaaMDdd
namespace Go.Proofs.Ytbbjbojjglhgmaa.Fo
open Go.ChangeShapes Go.WideShapes Go.ChangeAt Go.RowKit
set_option linter.unusedVariables false
set_option maxRecDepth 100000
set_option linter.unusedSimpArgs false
/-- what block k reads as behind the first m writes -/
def rdl (P : Nat → Nat → Int) (Q : Nat → Ed) (k : Nat) : Nat → Nat → Int
  | 0 => P k
  | m + 1 => if (Q m).b = (k : Int) then (Q m).A else rdl P Q k m
theorem stl_rdl (P : Nat → Nat → Int) (Q : Nat → Ed) (k : Nat) : ∀ m, (∀ j, j < m → 0 ≤ (Q j).b) → stl P Q m k = rdl P Q k m
  | 0, _ => rfl
  | m + 1, h => by
    have h0 := h m (by omega)
    rw [stl, rdl]
    unfold pup
    by_cases e : (Q m).b = (k : Int)
    · rw [if_pos e, if_pos (by omega)]
    · rw [if_neg e, if_neg (by omega)]
      exact stl_rdl P Q k m (fun j hj => h j (by omega))
/-- the drive of a disk -/
def dpg (D : Dd) : Nat → Nat → Int := fun i => (D.B i).A
theorem im_drive {v1 v2 : Value} {D : Dd} (w : World) (ha : RowD 0 w v1 v2 D) (hd : BdD D) (hok : Dok D) :
    Calls Try.prog 143 #[.agg #[v1, v2]] w fun e w' => ∃ dv vw, e = .returned (.pointer (some ⟨dv, 0, none⟩)) ∧ Dr w dv (dpg D) D.m D.Q vw w' := by
  obtain ⟨n, B, m, Q⟩ := D
  obtain rfl : n = 258 := hok.1
  exact im_drive_yes w ha hd hok
set_option maxHeartbeats 8000000 in
theorem im_settled_no {v1 v2 : Value} {D : Dd} (w : World) (ha : RowD 0 w v1 v2 D) (hd : BdD D) (hno : ¬ Dok D) :
    Calls Try.prog 96 #[.agg #[v1, v2]] w fun e w' => e = .returned (.pointer none) ∧ Kb 0 w w' := by
  obtain ⟨⟨p1, c1, rfl, -⟩, ⟨p2, c2, rfl, -⟩⟩ := id ha
  obtain ⟨w1, hw1⟩ : ∃ w1, w1 = w.alloc (.cells #[.slice p1 D.n c1, .slice p2 D.m c2] 40) := ⟨_, rfl⟩
  have k1 : Kb 0 w w1 := by rw [hw1]; exact kb_alloc _ _ _
  have b1 : w1.heap[w.heap.size]? = some (.cells #[.slice p1 D.n c1, .slice p2 D.m c2] 40 (0, 0)) := by rw [hw1]; exact alloc_new _ _ _
  have u0 : w1.cell? ⟨w.heap.size, 0, none⟩ = some (.slice p1 D.n c1) := cell_of b1 rfl
  have u1 : w1.cell? ⟨w.heap.size, 1, none⟩ = some (.slice p2 D.m c2) := cell_of b1 rfl
  have HI := im_drive_no w1 (ha.keep k1) hd hno
  have HK : Hid (Kb 0 w w1) := k1
  have HW1 : Hid (w1 = w.alloc (.cells #[.slice p1 D.n c1, .slice p2 D.m c2] 40)) := hw1
  clear hw1 k1 b1 ha hd hno
  go_enter Try.func96, Try.ntmps96
  go_upto_region 1 with fail
  rw [← (show w1 = _ from HW1)]
  clear HW1
  go_wp2_with fail
  refine HI.mono ?_
  rintro e w2 ⟨rfl, k2⟩
  have HF : Hid (Kb 0 w w2) := (show Kb 0 w w1 from HK).trans k2
  clear HI u0 u1 HK k2
  go_wp2_with fail
  go_ret
  exact ⟨rfl, HF⟩
set_option maxHeartbeats 8000000 in
theorem im_settled {v1 v2 : Value} {D : Dd} (w : World) (ha : RowD 0 w v1 v2 D) (hd : BdD D) (hok : Dok D) :
    Calls Try.prog 96 #[.agg #[v1, v2]] w fun e w' => ∃ dv, e = .returned (.pointer (some ⟨dv, 0, none⟩)) ∧ Dr w dv (stl (dpg D) D.Q D.m) 0 D.Q (.slice none 0 0) w' := by
  obtain ⟨⟨p1, c1, rfl, -⟩, ⟨p2, c2, rfl, -⟩⟩ := id ha
  obtain ⟨w1, hw1⟩ : ∃ w1, w1 = w.alloc (.cells #[.slice p1 D.n c1, .slice p2 D.m c2] 40) := ⟨_, rfl⟩
  have k1 : Kb 0 w w1 := by rw [hw1]; exact kb_alloc _ _ _
  have b1 : w1.heap[w.heap.size]? = some (.cells #[.slice p1 D.n c1, .slice p2 D.m c2] 40 (0, 0)) := by rw [hw1]; exact alloc_new _ _ _
  have u0 : w1.cell? ⟨w.heap.size, 0, none⟩ = some (.slice p1 D.n c1) := cell_of b1 rfl
  have u1 : w1.cell? ⟨w.heap.size, 1, none⟩ = some (.slice p2 D.m c2) := cell_of b1 rfl
  have HI := im_drive w1 (ha.keep k1) hd hok
  have HSY : Hid (∀ (dv : Nat) (vw : Value) (W : World), Dr w1 dv (dpg D) D.m D.Q vw W → Calls Try.prog 147 #[.pointer (some ⟨dv, 0, none⟩)] W fun e w' => e = .returned (.tuple #[]) ∧ Dr w dv (stl (dpg D) D.Q D.m) 0 D.Q (.slice none 0 0) w') := (fun dv vw W h => im_sync W (h.low k1) hok.2.1 (fun j hj => ⟨(hok.2.2.2 j hj).1, (hok.2.2.2 j hj).2.1⟩) D.Q : ∀ (dv : Nat) (vw : Value) (W : World), _)
  have HW1 : Hid (w1 = w.alloc (.cells #[.slice p1 D.n c1, .slice p2 D.m c2] 40)) := hw1
  clear hw1 k1 b1 ha hd hok
  go_enter Try.func96, Try.ntmps96
  go_upto_region 1 with fail
  rw [← (show w1 = _ from HW1)]
  clear HW1
  go_wp2_with fail
  refine HI.mono ?_
  rintro e w2 ⟨dv, vw, rfl, hD⟩
  have HS := (show ∀ (dv : Nat) (vw : Value) (W : World), _ from HSY) dv vw w2 hD
  clear HI u0 u1 hD HSY
  go_wp2_with fail
  refine HS.mono ?_
  rintro e w3 ⟨rfl, hD⟩
  have HD : Hid (Dr w dv (stl (dpg D) D.Q D.m) 0 D.Q (.slice none 0 0) w3) := hD
  clear HS hD
  go_wp2_with fail
  go_ret
  exact ⟨_, rfl, HD⟩
/-- what ReadBlock answers -/
def Rbk (D : Dd) (b : Int) : Prop := Dok D ∧ 0 ≤ b ∧ b < 258
def rbA (D : Dd) (b : Int) : Nat → Int := rdl (dpg D) D.Q b.toNat D.m
set_option maxHeartbeats 8000000 in
theorem im_read_no {v1 v2 : Value} {D : Dd} (b : Int) (w : World) (ha : RowD 0 w v1 v2 D) (hd : BdD D) (hno : ¬ Rbk D b) :
    Calls Try.prog 37 #[.agg #[v1, v2], .int .i64 b] w fun e w' => e = .returned (.slice none 0 0) ∧ Kb 0 w w' := by
  obtain ⟨⟨p1, c1, rfl, -⟩, ⟨p2, c2, rfl, -⟩⟩ := id ha
  obtain ⟨w1, hw1⟩ : ∃ w1, w1 = w.alloc (.cells #[.slice p1 D.n c1, .slice p2 D.m c2] 40) := ⟨_, rfl⟩
  have k1 : Kb 0 w w1 := by rw [hw1]; exact kb_alloc _ _ _
  have b1 : w1.heap[w.heap.size]? = some (.cells #[.slice p1 D.n c1, .slice p2 D.m c2] 40 (0, 0)) := by rw [hw1]; exact alloc_new _ _ _
  have u0 : w1.cell? ⟨w.heap.size, 0, none⟩ = some (.slice p1 D.n c1) := cell_of b1 rfl
  have u1 : w1.cell? ⟨w.heap.size, 1, none⟩ = some (.slice p2 D.m c2) := cell_of b1 rfl
  have HK : Hid (Kb 0 w w1) := k1
  have HW1 : Hid (w1 = w.alloc (.cells #[.slice p1 D.n c1, .slice p2 D.m c2] 40)) := hw1
  by_cases hok : Dok D
  · have HI := im_settled w1 (ha.keep k1) hd hok
    have HB : Hid (∀ W : World, Calls Try.prog 97 #[.int .i64 b] W fun e w' => e = .returned (.bool false) ∧ w' = W) := (fun W => by
      have := im_isblock b W
      rw [dc_f (fun q => hno ⟨hok, q⟩)] at this
      exact this : ∀ W : World, _)
    clear hw1 k1 b1 ha hd hno hok
    go_enter Try.func37, Try.ntmps37
    go_upto_region 1 with fail
    rw [← (show w1 = _ from HW1)]
    clear HW1
    go_wp2_with fail
    refine HI.mono ?_
    rintro e w2 ⟨dv, rfl, hD⟩
    have HF : Hid (Kb 0 w w2) := (show Kb 0 w w1 from HK).trans hD.kb
    have HB2 := (show ∀ W : World, _ from HB) w2
    clear HI u0 u1 HK hD HB
    go_wp2_with fail
    refine HB2.mono ?_
    rintro e w3 ⟨rfl, hw3⟩
    rw [hw3]
    clear HB2 hw3
    go_wp2_with fail
    go_ret
    exact ⟨rfl, HF⟩
  · have HI := im_settled_no w1 (ha.keep k1) hd hok
    clear hw1 k1 b1 ha hd hno hok
    go_enter Try.func37, Try.ntmps37
    go_upto_region 1 with fail
    rw [← (show w1 = _ from HW1)]
    clear HW1
    go_wp2_with fail
    refine HI.mono ?_
    rintro e w2 ⟨rfl, k2⟩
    have HF : Hid (Kb 0 w w2) := (show Kb 0 w w1 from HK).trans k2
    clear HI u0 u1 HK k2
    go_wp2_with fail
    go_ret
    exact ⟨rfl, HF⟩
set_option maxHeartbeats 8000000 in
theorem im_read_yes {v1 v2 : Value} {D : Dd} (b : Int) (w : World) (ha : RowD 0 w v1 v2 D) (hd : BdD D) (hok : Rbk D b) :
    Calls Try.prog 37 #[.agg #[v1, v2], .int .i64 b] w fun e w' => ∃ g, e = .returned (.slice (some ⟨g, 0, none⟩) 64 64) ∧ OwnR w' (.slice (some ⟨g, 0, none⟩) 64 64) g 64 (ub (rbA D b)) ∧ (w.heap.size ≤ g ∧ g < w'.heap.size) ∧ Kb 0 w w' := by
  obtain ⟨⟨p1, c1, rfl, -⟩, ⟨p2, c2, rfl, -⟩⟩ := id ha
  obtain ⟨w1, hw1⟩ : ∃ w1, w1 = w.alloc (.cells #[.slice p1 D.n c1, .slice p2 D.m c2] 40) := ⟨_, rfl⟩
  have k1 : Kb 0 w w1 := by rw [hw1]; exact kb_alloc _ _ _
  have b1 : w1.heap[w.heap.size]? = some (.cells #[.slice p1 D.n c1, .slice p2 D.m c2] 40 (0, 0)) := by rw [hw1]; exact alloc_new _ _ _
  have u0 : w1.cell? ⟨w.heap.size, 0, none⟩ = some (.slice p1 D.n c1) := cell_of b1 rfl
  have u1 : w1.cell? ⟨w.heap.size, 1, none⟩ = some (.slice p2 D.m c2) := cell_of b1 rfl
  have HK : Hid (Kb 0 w w1) := k1
  have HW1 : Hid (w1 = w.alloc (.cells #[.slice p1 D.n c1, .slice p2 D.m c2] 40)) := hw1
  have HI := im_settled w1 (ha.keep k1) hd hok.1
  have hb0 := hok.2.1
  have hb1 := hok.2.2
  have HB : Hid (∀ W : World, Calls Try.prog 97 #[.int .i64 b] W fun e w' => e = .returned (.bool true) ∧ w' = W) := (fun W => by
    have := im_isblock b W
    rw [dc_t hok.2] at this
    exact this : ∀ W : World, _)
  obtain ⟨PG, hPG⟩ : ∃ PG, PG = pgl (rbA D b) := ⟨_, rfl⟩
  have HRG : Hid (∀ (dv : Nat) (vw : Value) (W : World), Dr w1 dv (stl (dpg D) D.Q D.m) 0 D.Q vw W → W.rangeAt dv (b.toNat * 64) PG) := (fun dv vw W h t v hv => by
    rw [hPG] at hv
    have ht : t < 64 := by have := (List.getElem?_eq_some_iff.1 hv).1; rw [pgl_len] at this; exact this
    rw [pgl_at _ t ht] at hv
    injection hv with hv
    rw [pgs_range.1 h.rg b.toNat (by omega) t ht, ← hv]
    unfold rbA
    rw [stl_rdl _ _ _ _ (fun j hj => (hok.1.2.2.2 j hj).1)] : ∀ (dv : Nat) (vw : Value) (W : World), _)
  have HLP : Hid ((Try.prog.info? 107).map (·.size) = some PG.length) := (by rw [hPG, pgl_len]; exact infoP : (Try.prog.info? 107).map (·.size) = some PG.length)
  have HFIN : Hid (∀ W W' : World, W' = W.alloc (.cells PG.toArray 107) → OwnR W' (.slice (some ⟨W.heap.size, 0, none⟩) 64 64) W.heap.size 64 (ub (rbA D b))) := (fun W W' h => own_page (by rw [hPG] at h; exact h) : ∀ W W' : World, _)
  clear hw1 k1 b1 ha hd hok hPG
  go_enter Try.func37, Try.ntmps37
  go_upto_region 1 with fail
  rw [← (show w1 = _ from HW1)]
  clear HW1
  go_wp2_with fail
  refine HI.mono ?_
  rintro e w2 ⟨dv, rfl, hD⟩
  have k2 : Kb 0 w w2 := (show Kb 0 w w1 from HK).trans hD.kb
  have HF : Hid (Kb 0 w w2) := k2
  have HR2 : Hid (w2.rangeAt dv (b.toNat * 64) PG) := (show ∀ (dv : Nat) (vw : Value) (W : World), _ from HRG) dv _ w2 hD
  have HB2 := (show ∀ W : World, _ from HB) w2
  clear HI u0 u1 HK hD HB k2 HRG
  go_wp2_with fail
  refine HB2.mono ?_
  rintro e w3 ⟨rfl, hw3⟩
  rw [hw3]
  clear HB2 hw3
  go_wp2_with (refine wpList_load_mid (by rfl) 107 (.tmp 19) (by rfl) dv (b.toNat * 64) (by first | rfl | simp [Act.eval, Addr.add]) PG _ HR2 und_page rfl HLP ?_)
  refine (im_bytes w2).mono ?_
  rintro e w4 ⟨rfl, h4⟩
  have HO : Hid (OwnR w4 (.slice (some ⟨w2.heap.size, 0, none⟩) 64 64) w2.heap.size 64 (ub (rbA D b)) ∧ (w.heap.size ≤ w2.heap.size ∧ w2.heap.size < w4.heap.size) ∧ Kb 0 w w4) := (⟨(show ∀ W W' : World, _ from HFIN) w2 w4 h4, ⟨(show Kb 0 w w2 from HF).size, by rw [h4, World.size_alloc]; omega⟩, (show Kb 0 w w2 from HF).trans (by rw [h4]; exact kb_alloc _ _ _)⟩ : _ ∧ _)
  clear h4 HFIN HR2 HLP HF
  go_wp2_with fail
  go_ret
  exact ⟨_, rfl, HO⟩
end Go.Proofs.Ytbbjbojjglhgmaa.Fo
