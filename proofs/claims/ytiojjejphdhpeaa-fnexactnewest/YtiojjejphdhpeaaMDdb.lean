import Derived.Great.BuildSlice
import Derived.Test.YtiojjejphdhpeaaMDda
import Derived.Test.YtiojjejphdhpeaaMDah
import Derived.Test.YtiojjejphdhpeaaMReg
namespace Go.Proofs.Ytiojjejphdhpeaa.Fo
open Go.ChangeShapes Go.WideShapes Go.ChangeAt Go.RowKit
set_option linter.unusedVariables false
set_option maxRecDepth 100000
theorem built_pd (b : Int) (A : Nat → Int) : Try.prog.built 140 [(0, .int .i64 b), (1, .agg (pgl A).toArray)] = some (.int .i64 b :: pgl A).toArray := by kernel_rfl
theorem run_bpd (b : Int) (A : Nat → Int) (W : World) : (Instr.build 140 #[(0, .int .i64 b), (1, .agg (pgl A).toArray)]).run Try.prog W = .ok (.agg (.int .i64 b :: pgl A).toArray) W := run_build W _ _ _ (built_pd b A)
theorem infoPd : ∃ i1 z, Try.prog.info? 140 = some i1 ∧ i1.zero = some z ∧ i1.size = 65 ∧ i1.bytes = 72 ∧ z.cells.size = 65 := ⟨Try.t140, .agg (.int .i64 0 :: pgl (fun _ => 0)).toArray, by kernel_rfl, by kernel_rfl, by kernel_rfl, by kernel_rfl, by kernel_rfl⟩
theorem tpd : Try.t140.size = 65 := by kernel_rfl
theorem run_spd (b : Int) (A : Nat → Int) (W : World) : (Instr.buildSlice 122 1 #[(0, .agg (.int .i64 b :: pgl A).toArray)]).run Try.prog W = .ok (.slice (some ⟨W.heap.size, 0, none⟩) 1 1) (W.alloc (.cells (.int .i64 b :: pgl A).toArray 140)) :=
  run_buildSlice W 122 140 1 _ _ Try.t140 (.agg (Value.int .i64 0 :: pgl (fun _ => 0)).toArray) Try.underlying122 (by kernel_rfl) (by kernel_rfl) (by rw [tpd]; omega) (by rw [tpd]; omega) (by kernel_rfl)
theorem wp_exec {P : Program} {o : Oper} {a : Act} {w w' : World} {K : Act → World → Prop} {Q : Exit → Act → World → Prop} {v : Value} (h : (execOp a.eval o).run P w = .ok (.value v) w') (hk : K (a.put o.dst v) w') : o.wp P a w K Q := by
  unfold Oper.wp
  rw [h, Oper.upon_value]
  exact hk
theorem exec_build {P : Program} {o : Oper} {a : Act} {w w' : World} {v : Value} (t : TypeId) (parts : Array (Nat × Operand)) (pl : Array (Nat × Value)) (ho : o.op = .build t parts) (hp : (parts.map fun (i, x) => (i, a.eval x)) = pl) (hr : (Instr.build t pl).run P w = .ok v w') : (execOp a.eval o).run P w = .ok (.value v) w' := by
  unfold execOp
  simp only [ho, Sem.run_bind, hp, hr, Result.andThen_ok, Sem.run_pure]
theorem exec_buildS {P : Program} {o : Oper} {a : Act} {w w' : World} {v : Value} (t : TypeId) (n : Nat) (parts : Array (Nat × Operand)) (pl : Array (Nat × Value)) (ho : o.op = .buildSlice t n parts) (hp : (parts.map fun (i, x) => (i, a.eval x)) = pl) (hr : (Instr.buildSlice t n pl).run P w = .ok v w') : (execOp a.eval o).run P w = .ok (.value v) w' := by
  unfold execOp
  simp only [ho, Sem.run_bind, hp, hr, Result.andThen_ok, Sem.run_pure]
set_option maxHeartbeats 16000000 in
theorem im_put_yes {w0 : World} {dv : Nat} {P : Nat → Nat → Int} {m : Nat} {Q : Nat → Ed} {vw va : Value} {A : Nat → Int} (b : Int) (w : World) (h : Dr w0 dv P m Q vw w) (ha : RowV w va 64 (fun i => .int .u8 (A i))) (hb : 0 ≤ b ∧ b < 258) (hm : m < 200) :
    Calls Try.prog 84 #[.pointer (some ⟨dv, 0, none⟩), .int .i64 b, va] w fun e w' => e = .returned (.bool true) ∧ ∃ vw', Dr w0 dv P (m + 1) (fun j => if j = m then ⟨false, b, 64, A⟩ else Q j) vw' w' := by
  obtain ⟨pv, cv, rfl⟩ := h.shape
  obtain ⟨pa, ca, rfl, ha2⟩ := id ha
  have HIW := im_iswrite b (p := pa) (c := 64) (q := ca) (by omega) w
  have hok : Wok b 64 := ⟨hb.1, hb.2, rfl⟩
  rw [dc_t hok] at HIW
  clear hok
  have hmI : ¬ (m : Int) = 200 := by omega
  obtain ⟨CE, hCE⟩ : ∃ CE, CE = (.int .i64 b :: pgl A) := ⟨_, rfl⟩
  obtain ⟨PG, hPG⟩ : ∃ PG, PG = (pgl A).toArray := ⟨_, rfl⟩
  have hbld : ∀ W, (Instr.build 140 #[(0, .int .i64 b), (1, .agg PG)]).run Try.prog W = .ok (.agg CE.toArray) W := by rw [hCE, hPG]; exact run_bpd b A
  have hbs : ∀ W : World, (Instr.buildSlice 122 1 #[(0, .agg CE.toArray)]).run Try.prog W = .ok (.slice (some ⟨W.heap.size, 0, none⟩) 1 1) (W.alloc (.cells CE.toArray 140)) := by rw [hCE]; exact run_spd b A
  have HPO : Hid (∀ W, Kb 0 w W → Calls Try.prog 69 #[.slice pa 64 ca] W fun e w' => e = .returned (.agg PG) ∧ Kb 0 W w') := (fun W k => by
    have e : pgl (pad 64 A) = pgl A := pgl_ext (fun j hj => by unfold pad; rw [if_pos hj])
    rw [hPG, ← e]
    exact im_pageof W (ha.rowB.keep k).row (Nat.le_refl _) : ∀ W, _)
  have HPS : Hid (∀ (W6 : World) (ob : Obj) (W8 : World) (g cap : Nat), Kb 0 w W6 → W8.ownsRow (dv + 1) 140 65 (.slice (some ⟨g, 0, none⟩) (m + 1) cap) (m + 1) (pcl Q m ++ CE) → (W6.alloc ob).grownBy W8 (Value.slice pv m cv).ownBlock → (W8.cell? ⟨dv, 16512, none⟩ = some (.slice pv m cv) ∧ ∀ j, W8.frozen? ⟨dv, j, none⟩ = false) ∧ Dr w0 dv P (m + 1) (fun j => if j = m then ⟨false, b, 64, A⟩ else Q j) (.slice (some ⟨g, 0, none⟩) (m + 1) cap) (W8.setCell ⟨dv, 16512, none⟩ (.slice (some ⟨g, 0, none⟩) (m + 1) cap))) := (fun W6 ob W8 g cap k6 h8 g8 => h.push k6 (by rw [hCE] at h8; exact h8) g8 : ∀ (W6 : World) (ob : Obj) (W8 : World) (g cap : Nat), _)
  have HKP : Hid (∀ W, Kb 0 w W → W.cell? ⟨dv, 16512, none⟩ = some (.slice pv m cv) ∧ W.ownsRow (dv + 1) 140 65 (.slice pv m cv) m (pcl Q m) ∧ dv + 1 ≤ W.heap.size) := (fun W k => ⟨(h.keep k).wt, (h.keep k).ro, (h.keep k).lt⟩ : ∀ W, _)
  have HCL : Hid (CE.length = 65 ∧ ∀ u ∈ CE, u.oneCell' = true) := (⟨by rw [hCE, List.length_cons, pgl_len], fun u hu => by rw [hCE] at hu; rcases List.mem_cons.1 hu with rfl | hu; rfl; exact pgl_one A u hu⟩ : _ ∧ _)
  have c0 := h.wt
  obtain ⟨i1, z1, hi1, hz0, hz1, hz2, hz3⟩ := infoPd
  have HI1 : Hid (Try.prog.info? 140 = some i1) := hi1
  obtain ⟨PC, hPC⟩ : ∃ PC, PC = pcl Q m := ⟨_, rfl⟩
  rw [← hPC] at HPS HKP
  clear hPC h ha ha2 hCE hPG hi1
  go_enter Try.func84, Try.ntmps84
  go_wp2_with fail
  refine HIW.mono ?_
  rintro e w1 ⟨rfl, rfl⟩
  clear HIW
  go_upto_region 3 with fail
  refine AnyL.region (S := fun W' => W'.cell? ⟨dv, 16512, none⟩ = some (.slice pv m cv)) (z := 13) (by kernel_rfl) ?_
  have kd : Kb 0 w1 w1.drew := Kb.drewN (Kb.refl _ _) 1
  have HKD : Hid (Kb 0 w1 w1.drew) := kd
  have hS0 : (fun W' : World => W'.cell? ⟨dv, 16512, none⟩ = some (.slice pv m cv)) w1.drew := c0
  obtain ⟨W0, hW0⟩ : ∃ W0, W0 = w1.drew := ⟨_, rfl⟩
  rw [← hW0] at hS0 HKD ⊢
  clear c0 kd hW0
  refine AnyL.takeAt 0 (.pointer (some ⟨dv, 0, none⟩)) rfl (by kernel_rfl) (by kernel_rfl) (by kernel_rfl) (by kernel_rfl) (fun _ _ _ h => h) rfl hS0 (by intro W hW; go_simp) ?_
  try simp only [Act.put, List.setIfInBounds_toArray, List.set_cons_zero, List.set_cons_succ]
  refine AnyL.takeAt 1 (.pointer (some ⟨dv, 0, none⟩)) rfl (by kernel_rfl) (by kernel_rfl) (by kernel_rfl) (by kernel_rfl) (fun _ _ _ h => h) rfl hS0 (by intro W hW; go_simp) ?_
  try simp only [Act.put, List.setIfInBounds_toArray, List.set_cons_zero, List.set_cons_succ]
  refine AnyL.takeAt 2 (.pointer (some ⟨dv, 0, none⟩)) rfl (by kernel_rfl) (by kernel_rfl) (by kernel_rfl) (by kernel_rfl) (fun _ _ _ h => h) rfl hS0 (by intro W hW; go_simp) ?_
  try simp only [Act.put, List.setIfInBounds_toArray, List.set_cons_zero, List.set_cons_succ]
  refine AnyL.takeAt 3 (.pointer (some ⟨dv, 16512, none⟩)) rfl (by kernel_rfl) (by kernel_rfl) (by kernel_rfl) (by kernel_rfl) (fun _ _ _ h => h) rfl hS0 (by intro W hW; go_simp) ?_
  try simp only [Act.put, List.setIfInBounds_toArray, List.set_cons_zero, List.set_cons_succ]
  refine AnyL.takeAt 4 (.slice pv m cv) rfl (by kernel_rfl) (by kernel_rfl) (by kernel_rfl) (by kernel_rfl) (fun _ _ _ h => h) rfl hS0 (by intro W hW; go_simp) ?_
  try simp only [Act.put, List.setIfInBounds_toArray, List.set_cons_zero, List.set_cons_succ]
  refine AnyL.takeAt 5 (.int .i64 b) rfl (by kernel_rfl) (by kernel_rfl) (by kernel_rfl) (by kernel_rfl) (fun _ _ _ h => h) rfl hS0 (by intro W hW; go_simp) ?_
  try simp only [Act.put, List.setIfInBounds_toArray, List.set_cons_zero, List.set_cons_succ]
  refine AnyL.takeAt 6 (.slice pa 64 ca) rfl (by kernel_rfl) (by kernel_rfl) (by kernel_rfl) (by kernel_rfl) (fun _ _ _ h => h) rfl hS0 (by intro W hW; go_simp) ?_
  try simp only [Act.put, List.setIfInBounds_toArray, List.set_cons_zero, List.set_cons_succ]
  refine AnyL.oneAt 7 rfl (by kernel_rfl) rfl ?_
  intro K hK
  go_simp
  refine ((show ∀ W, Kb 0 w1 W → _ from HPO) W0 HKD).mono ?_
  rintro e W6 ⟨rfl, k6⟩
  have HK6 : Hid (Kb 0 w1 W6) := (show Kb 0 w1 W0 from HKD).trans k6
  obtain ⟨hS6, hown6, h6z⟩ := (show ∀ W, Kb 0 w1 W → _ from HKP) W6 HK6
  have HS6a : Hid (∀ ob, (W6.alloc ob).cell? ⟨dv, 16512, none⟩ = some (.slice pv m cv)) := (fun ob => (kb_alloc 0 W6 ob).cell hS6 : ∀ ob, _)
  clear HPO HKP k6 HKD
  refine hK.out _ _ (fun _ => hS6) ?_
  clear hK K
  try simp only [Act.put, List.setIfInBounds_toArray, List.set_cons_zero, List.set_cons_succ]
  refine AnyL.oneAt 8 rfl (by kernel_rfl) rfl ?_
  intro K hK
  refine wp_exec (exec_build 140 _ _ rfl (by first | rfl | (simp only [List.map_toArray, List.map_cons, List.map_nil]; rfl)) (hbld W6)) ?_
  refine hK.out _ _ (fun _ => hS6) ?_
  clear hK K hbld
  try simp only [Act.put, List.setIfInBounds_toArray, List.set_cons_zero, List.set_cons_succ]
  refine AnyL.oneAt 9 rfl (by kernel_rfl) rfl ?_
  intro K hK
  refine wp_exec (exec_buildS 122 1 _ _ rfl (by first | rfl | (simp only [List.map_toArray, List.map_cons, List.map_nil]; rfl)) (hbs W6)) ?_
  refine hK.out _ _ (fun _ => (show ∀ ob, _ from HS6a) _) ?_
  clear hK K hbs
  try simp only [Act.put, List.setIfInBounds_toArray, List.set_cons_zero, List.set_cons_succ]
  refine AnyL.oneAt 10 rfl (by kernel_rfl) rfl ?_
  intro K hK
  refine wp_append_lies _ (.tmp 23) (.tmp 28) 122 rfl (dv + 1) 140 i1 z1 65 72 Try.underlying122 HI1 hz0 hz1 hz2 hz3 (by decide) (.slice pv m cv) m PC rfl (hown6.alloc _) ⟨W6.heap.size, 0, none⟩ 1 1 CE rfl ((show _ ∧ _ from HCL).1.trans (by rfl)) (qr_cells W6 CE.toArray 140 CE (by simp)) (show _ ∧ _ from HCL).2 (by decide) (by unfold maxLen; omega) (by omega) (by rw [World.size_alloc]; omega) (W6.heap.size + 1) (World.size_alloc _ _) ?_
  intro g cap w8 hown1 hgrow1 hat hlt
  obtain ⟨⟨x1, x2⟩, hDR⟩ := (show ∀ (W6 : World) (ob : Obj) (W8 : World) (g cap : Nat), _ from HPS) W6 _ w8 g cap HK6 hown1 hgrow1
  have HDR : Hid (Dr w0 dv P (m + 1) (fun j => if j = m then ⟨false, b, 64, A⟩ else Q j) (.slice (some ⟨g, 0, none⟩) (m + 1) cap) (w8.setCell ⟨dv, 16512, none⟩ (.slice (some ⟨g, 0, none⟩) (m + 1) cap))) := hDR
  clear HPS hown1 hgrow1 hat hlt hDR hS6 HS6a hown6
  refine hK.out _ _ (fun _ => x1) ?_
  clear hK K
  try simp only [Act.put, List.setIfInBounds_toArray, List.set_cons_zero, List.set_cons_succ]
  refine AnyL.oneAt 11 rfl (by kernel_rfl) rfl ?_
  intro K hK
  go_simp
  refine hK.out _ _ (fun _ => x1) ?_
  clear hK K
  try simp only [Act.put, List.setIfInBounds_toArray, List.set_cons_zero, List.set_cons_succ]
  refine AnyL.oneAt 12 rfl (by kernel_rfl) rfl ?_
  intro K hK
  go_simp
  refine hK.out _ _ (fun _ => x1) ?_
  clear hK K
  try simp only [Act.put, List.setIfInBounds_toArray, List.set_cons_zero, List.set_cons_succ]
  refine AnyL.oneAt 13 rfl (by kernel_rfl) rfl ?_
  intro K hK
  go_simp
  refine hK.out _ _ (fun h => absurd rfl h) ?_
  clear hK K x1 x2
  try simp only [Act.put, List.setIfInBounds_toArray, List.set_cons_zero, List.set_cons_succ]
  refine AnyL.done (by kernel_rfl) ?_
  go_wp2_with fail
  go_ret
  exact ⟨rfl, _, HDR⟩
end Go.Proofs.Ytiojjejphdhpeaa.Fo
