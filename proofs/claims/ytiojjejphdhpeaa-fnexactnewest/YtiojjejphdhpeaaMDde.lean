import Derived.Test.YtiojjejphdhpeaaMDdd
namespace Go.Proofs.Ytiojjejphdhpeaa.Fo
open Go.ChangeShapes Go.WideShapes Go.ChangeAt Go.RowKit
set_option linter.unusedVariables false
set_option maxRecDepth 100000
set_option linter.unusedSimpArgs false
/-- what block k reads as behind the first m writes -/
def rdl (P : Nat → Nat → Int) (Q : Nat → Ed) (k : Nat) : Nat → Nat → Int
  | 0 => P k
  | m + 1 => if (Q m).b = (k : Int) then (Q m).A else rdl P Q k m
theorem stl_rdl (P : Nat → Nat → Int) (Q : Nat → Ed) (k : Nat) : ∀ m, (∀ j, j < m → 0 ≤ (Q j).b) → stl P Q m k = rdl P Q k m
  | 0, _ => rfl
  | m + 1, h => by
    have h0 := h m (by omega)
    rw [stl, rdl]
    unfold pup
    by_cases e : (Q m).b = (k : Int)
    · rw [if_pos e, if_pos (by omega)]
    · rw [if_neg e, if_neg (by omega)]
      exact stl_rdl P Q k m (fun j hj => h j (by omega))
/-- the drive of a disk -/
def dpg (D : Dd) : Nat → Nat → Int := fun i => (D.B i).A
theorem im_drive {v1 v2 : Value} {D : Dd} (w : World) (ha : RowD 0 w v1 v2 D) (hd : BdD D) (hok : Dok D) :
    Calls Try.prog 81 #[.agg #[v1, v2]] w fun e w' => ∃ dv vw, e = .returned (.pointer (some ⟨dv, 0, none⟩)) ∧ Dr w dv (dpg D) D.m D.Q vw w' := by
  obtain ⟨n, B, m, Q⟩ := D
  obtain rfl : n = 258 := hok.1
  exact im_drive_yes w ha hd hok
set_option maxHeartbeats 8000000 in
theorem im_settled_no {v1 v2 : Value} {D : Dd} (w : World) (ha : RowD 0 w v1 v2 D) (hd : BdD D) (hno : ¬ Dok D) :
    Calls Try.prog 60 #[.agg #[v1, v2]] w fun e w' => e = .returned (.pointer none) ∧ Kb 0 w w' := by
  obtain ⟨⟨p1, c1, rfl, -⟩, ⟨p2, c2, rfl, -⟩⟩ := id ha
  obtain ⟨w1, hw1⟩ : ∃ w1, w1 = w.alloc (.cells #[.slice p1 D.n c1, .slice p2 D.m c2] 30) := ⟨_, rfl⟩
  have k1 : Kb 0 w w1 := by rw [hw1]; exact kb_alloc _ _ _
  have b1 : w1.heap[w.heap.size]? = some (.cells #[.slice p1 D.n c1, .slice p2 D.m c2] 30 (0, 0)) := by rw [hw1]; exact alloc_new _ _ _
  have u0 : w1.cell? ⟨w.heap.size, 0, none⟩ = some (.slice p1 D.n c1) := cell_of b1 rfl
  have u1 : w1.cell? ⟨w.heap.size, 1, none⟩ = some (.slice p2 D.m c2) := cell_of b1 rfl
  have HI := im_drive_no w1 (ha.keep k1) hd hno
  have HK : Hid (Kb 0 w w1) := k1
  have HW1 : Hid (w1 = w.alloc (.cells #[.slice p1 D.n c1, .slice p2 D.m c2] 30)) := hw1
  clear hw1 k1 b1 ha hd hno
  go_enter Try.func60, Try.ntmps60
  go_upto_region 1 with fail
  rw [← (show w1 = _ from HW1)]
  clear HW1
  go_wp2_with fail
  refine HI.mono ?_
  rintro e w2 ⟨rfl, k2⟩
  have HF : Hid (Kb 0 w w2) := (show Kb 0 w w1 from HK).trans k2
  clear HI u0 u1 HK k2
  go_wp2_with fail
  go_ret
  exact ⟨rfl, HF⟩
set_option maxHeartbeats 8000000 in
theorem im_settled {v1 v2 : Value} {D : Dd} (w : World) (ha : RowD 0 w v1 v2 D) (hd : BdD D) (hok : Dok D) :
    Calls Try.prog 60 #[.agg #[v1, v2]] w fun e w' => ∃ dv, e = .returned (.pointer (some ⟨dv, 0, none⟩)) ∧ Dr w dv (stl (dpg D) D.Q D.m) 0 D.Q (.slice none 0 0) w' := by
  obtain ⟨⟨p1, c1, rfl, -⟩, ⟨p2, c2, rfl, -⟩⟩ := id ha
  obtain ⟨w1, hw1⟩ : ∃ w1, w1 = w.alloc (.cells #[.slice p1 D.n c1, .slice p2 D.m c2] 30) := ⟨_, rfl⟩
  have k1 : Kb 0 w w1 := by rw [hw1]; exact kb_alloc _ _ _
  have b1 : w1.heap[w.heap.size]? = some (.cells #[.slice p1 D.n c1, .slice p2 D.m c2] 30 (0, 0)) := by rw [hw1]; exact alloc_new _ _ _
  have u0 : w1.cell? ⟨w.heap.size, 0, none⟩ = some (.slice p1 D.n c1) := cell_of b1 rfl
  have u1 : w1.cell? ⟨w.heap.size, 1, none⟩ = some (.slice p2 D.m c2) := cell_of b1 rfl
  have HI := im_drive w1 (ha.keep k1) hd hok
  have HSY : Hid (∀ (dv : Nat) (vw : Value) (W : World), Dr w1 dv (dpg D) D.m D.Q vw W → Calls Try.prog 89 #[.pointer (some ⟨dv, 0, none⟩)] W fun e w' => e = .returned (.tuple #[]) ∧ Dr w dv (stl (dpg D) D.Q D.m) 0 D.Q (.slice none 0 0) w') := (fun dv vw W h => im_sync W (h.low k1) hok.2.1 (fun j hj => ⟨(hok.2.2.2 j hj).1, (hok.2.2.2 j hj).2.1⟩) D.Q : ∀ (dv : Nat) (vw : Value) (W : World), _)
  have HW1 : Hid (w1 = w.alloc (.cells #[.slice p1 D.n c1, .slice p2 D.m c2] 30)) := hw1
  clear hw1 k1 b1 ha hd hok
  go_enter Try.func60, Try.ntmps60
  go_upto_region 1 with fail
  rw [← (show w1 = _ from HW1)]
  clear HW1
  go_wp2_with fail
  refine HI.mono ?_
  rintro e w2 ⟨dv, vw, rfl, hD⟩
  have HS := (show ∀ (dv : Nat) (vw : Value) (W : World), _ from HSY) dv vw w2 hD
  clear HI u0 u1 hD HSY
  go_wp2_with fail
  refine HS.mono ?_
  rintro e w3 ⟨rfl, hD⟩
  have HD : Hid (Dr w dv (stl (dpg D) D.Q D.m) 0 D.Q (.slice none 0 0) w3) := hD
  clear HS hD
  go_wp2_with fail
  go_ret
  exact ⟨_, rfl, HD⟩
/-- what ReadBlock answers -/
def Rbk (D : Dd) (b : Int) : Prop := Dok D ∧ 0 ≤ b ∧ b < 258
def rbA (D : Dd) (b : Int) : Nat → Int := rdl (dpg D) D.Q b.toNat D.m
end Go.Proofs.Ytiojjejphdhpeaa.Fo
