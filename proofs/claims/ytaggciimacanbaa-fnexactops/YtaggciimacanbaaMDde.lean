import Derived.Great.BuildSlice
import Derived.Test.YtaggciimacanbaaMDda
import Derived.Test.YtaggciimacanbaaMDah
import Derived.Test.YtaggciimacanbaaMReg
namespace Go.Proofs.Ytaggciimacanbaa.Fo
open Go.ChangeShapes Go.WideShapes Go.ChangeAt Go.RowKit
set_option linter.unusedVariables false
set_option maxRecDepth 100000
theorem built_pd (b : Int) (A : Nat → Int) : Try.prog.built 140 [(0, .int .i64 b), (1, .agg (pgl A).toArray)] = some (.int .i64 b :: pgl A).toArray := by kernel_rfl
theorem run_bpd (b : Int) (A : Nat → Int) (W : World) : (Instr.build 140 #[(0, .int .i64 b), (1, .agg (pgl A).toArray)]).run Try.prog W = .ok (.agg (.int .i64 b :: pgl A).toArray) W := run_build W _ _ _ (built_pd b A)
theorem infoPd : ∃ i1 z, Try.prog.info? 140 = some i1 ∧ i1.zero = some z ∧ i1.size = 65 ∧ i1.bytes = 72 ∧ z.cells.size = 65 := ⟨Try.t140, .agg (.int .i64 0 :: pgl (fun _ => 0)).toArray, by kernel_rfl, by kernel_rfl, by kernel_rfl, by kernel_rfl, by kernel_rfl⟩
theorem tpd : Try.t140.size = 65 := by kernel_rfl
theorem run_spd (b : Int) (A : Nat → Int) (W : World) : (Instr.buildSlice 122 1 #[(0, .agg (.int .i64 b :: pgl A).toArray)]).run Try.prog W = .ok (.slice (some ⟨W.heap.size, 0, none⟩) 1 1) (W.alloc (.cells (.int .i64 b :: pgl A).toArray 140)) :=
  run_buildSlice W 122 140 1 _ _ Try.t140 (.agg (Value.int .i64 0 :: pgl (fun _ => 0)).toArray) Try.underlying122 (by kernel_rfl) (by kernel_rfl) (by rw [tpd]; omega) (by rw [tpd]; omega) (by kernel_rfl)
theorem wp_exec {P : Program} {o : Oper} {a : Act} {w w' : World} {K : Act → World → Prop} {Q : Exit → Act → World → Prop} {v : Value} (h : (execOp a.eval o).run P w = .ok (.value v) w') (hk : K (a.put o.dst v) w') : o.wp P a w K Q := by
  unfold Oper.wp
  rw [h, Oper.upon_value]
  exact hk
theorem exec_build {P : Program} {o : Oper} {a : Act} {w w' : World} {v : Value} (t : TypeId) (parts : Array (Nat × Operand)) (pl : Array (Nat × Value)) (ho : o.op = .build t parts) (hp : (parts.map fun (i, x) => (i, a.eval x)) = pl) (hr : (Instr.build t pl).run P w = .ok v w') : (execOp a.eval o).run P w = .ok (.value v) w' := by
  unfold execOp
  simp only [ho, Sem.run_bind, hp, hr, Result.andThen_ok, Sem.run_pure]
theorem exec_buildS {P : Program} {o : Oper} {a : Act} {w w' : World} {v : Value} (t : TypeId) (n : Nat) (parts : Array (Nat × Operand)) (pl : Array (Nat × Value)) (ho : o.op = .buildSlice t n parts) (hp : (parts.map fun (i, x) => (i, a.eval x)) = pl) (hr : (Instr.buildSlice t n pl).run P w = .ok v w') : (execOp a.eval o).run P w = .ok (.value v) w' := by
  unfold execOp
  simp only [ho, Sem.run_bind, hp, hr, Result.andThen_ok, Sem.run_pure]
set_option maxHeartbeats 16000000 in
theorem im_put_yes {w0 : World} {dv : Nat} {P : Nat → Nat → Int} {m : Nat} {Q : Nat → Ed} {vw va : Value} {A : Nat → Int} (b : Int) (w : World) (h : Dr w0 dv P m Q vw w) (ha : RowV w va 64 (fun i => .int .u8 (A i))) (hb : 0 ≤ b ∧ b < 258) (hm : m < 200) :
    Calls Try.prog 84 #[.pointer (some ⟨dv, 0, none⟩), .int .i64 b, va] w fun e w' => e = .returned (.bool true) ∧ ∃ vw', Dr w0 dv P (m + 1) (fun j => if j = m then ⟨false, b, 64, A⟩ else Q j) vw' w' := by
  obtain ⟨pv, cv, rfl⟩ := h.shape
  obtain ⟨pa, ca, rfl, ha2⟩ := id ha
  have HIW := im_iswrite b (p := pa) (c := 64) (q := ca) (by omega) w
  have hok : Wok b 64 := ⟨hb.1, hb.2, rfl⟩
  rw [dc_t hok] at HIW
  clear hok
  have hmI : ¬ (m : Int) = 200 := by omega
  obtain ⟨CE, hCE⟩ : ∃ CE, CE = (.int .i64 b :: pgl A) := ⟨_, rfl⟩
  obtain ⟨PG, hPG⟩ : ∃ PG, PG = (pgl A).toArray := ⟨_, rfl⟩
  have hbld : ∀ W, (Instr.build 140 #[(0, .int .i64 b), (1, .agg PG)]).run Try.prog W = .ok (.agg CE.toArray) W := by rw [hCE, hPG]; exact run_bpd b A
  have hbs : ∀ W : World, (Instr.buildSlice 122 1 #[(0, .agg CE.toArray)]).run Try.prog W = .ok (.slice (some ⟨W.heap.size, 0, none⟩) 1 1) (W.alloc (.cells CE.toArray 140)) := by rw [hCE]; exact run_spd b A
  have HPO : Hid (∀ W, Kb 0 w W → Calls Try.prog 69 #[.slice pa 64 ca] W fun e w' => e = .returned (.agg PG) ∧ Kb 0 W w') := (fun W k => by
    have e : pgl (pad 64 A) = pgl A := pgl_ext (fun j hj => by unfold pad; rw [if_pos hj])
    rw [hPG, ← e]
    exact im_pageof W (ha.rowB.keep k).row (Nat.le_refl _) : ∀ W, _)
  have HPS : Hid (∀ (W6 : World) (ob : Obj) (W8 : World) (g cap : Nat), Kb 0 w W6 → W8.ownsRow (dv + 1) 140 65 (.slice (some ⟨g, 0, none⟩) (m + 1) cap) (m + 1) (pcl Q m ++ CE) → (W6.alloc ob).grownBy W8 (Value.slice pv m cv).ownBlock → (W8.cell? ⟨dv, 16512, none⟩ = some (.slice pv m cv) ∧ ∀ j, W8.frozen? ⟨dv, j, none⟩ = false) ∧ Dr w0 dv P (m + 1) (fun j => if j = m then ⟨false, b, 64, A⟩ else Q j) (.slice (some ⟨g, 0, none⟩) (m + 1) cap) (W8.setCell ⟨dv, 16512, none⟩ (.slice (some ⟨g, 0, none⟩) (m + 1) cap))) := (fun W6 ob W8 g cap k6 h8 g8 => h.push k6 (by rw [hCE] at h8; exact h8) g8 : ∀ (W6 : World) (ob : Obj) (W8 : World) (g cap : Nat), _)
  have HKP : Hid (∀ W, Kb 0 w W → W.cell? ⟨dv, 16512, none⟩ = some (.slice pv m cv) ∧ W.ownsRow (dv + 1) 140 65 (.slice pv m cv) m (pcl Q m) ∧ dv + 1 ≤ W.heap.size) := (fun W k => ⟨(h.keep k).wt, (h.keep k).ro, (h.keep k).lt⟩ : ∀ W, _)
  have HCL : Hid (CE.length = 65 ∧ ∀ u ∈ CE, u.oneCell' = true) := (⟨by rw [hCE, List.length_cons, pgl_len], fun u hu => by rw [hCE] at hu; rcases List.mem_cons.1 hu with rfl | hu; rfl; exact pgl_one A u hu⟩ : _ ∧ _)
  have c0 := h.wt
  obtain ⟨i1, z1, hi1, hz0, hz1, hz2, hz3⟩ := infoPd
  have HI1 : Hid (Try.prog.info? 140 = some i1) := hi1
  obtain ⟨PC, hPC⟩ : ∃ PC, PC = pcl Q m := ⟨_, rfl⟩
  rw [← hPC] at HPS HKP
  clear hPC h ha ha2 hCE hPG hi1
  go_enter Try.func84, Try.ntmps84
  go_wp2_with fail
  refine HIW.mono ?_
  rintro e w1 ⟨rfl, rfl⟩
  clear HIW
  go_upto_region 3 with fail
  refine AnyL.region (S := fun W' => W'.cell? ⟨dv, 16512, none⟩ = some (.slice pv m cv)) (z := 13) (by kernel_rfl) ?_
  have kd : Kb 0 w1 w1.drew := Kb.drewN (Kb.refl _ _) 1
  have HKD : Hid (Kb 0 w1 w1.drew) := kd
  have hS0 : (fun W' : World => W'.cell? ⟨dv, 16512, none⟩ = some (.slice pv m cv)) w1.drew := c0
  obtain ⟨W0, hW0⟩ : ∃ W0, W0 = w1.drew := ⟨_, rfl⟩
  rw [← hW0] at hS0 HKD ⊢
  clear c0 kd hW0
  refine AnyL.takeAt 0 (.pointer (some ⟨dv, 0, none⟩)) rfl (by kernel_rfl) (by kernel_rfl) (by kernel_rfl) (by kernel_rfl) (fun _ _ _ h => h) rfl hS0 (by intro W hW; go_simp) ?_
  try simp only [Act.put, List.setIfInBounds_toArray, List.set_cons_zero, List.set_cons_succ]
  refine AnyL.takeAt 1 (.pointer (some ⟨dv, 0, none⟩)) rfl (by kernel_rfl) (by kernel_rfl) (by kernel_rfl) (by kernel_rfl) (fun _ _ _ h => h) rfl hS0 (by intro W hW; go_simp) ?_
  try simp only [Act.put, List.setIfInBounds_toArray, List.set_cons_zero, List.set_cons_succ]
  refine AnyL.takeAt 2 (.pointer (some ⟨dv, 0, none⟩)) rfl (by kernel_rfl) (by kernel_rfl) (by kernel_rfl) (by kernel_rfl) (fun _ _ _ h => h) rfl hS0 (by intro W hW; go_simp) ?_
  try simp only [Act.put, List.setIfInBounds_toArray, List.set_cons_zero, List.set_cons_succ]
  refine AnyL.takeAt 3 (.pointer (some ⟨dv, 16512, none⟩)) rfl (by kernel_rfl) (by kernel_rfl) (by kernel_rfl) (by kernel_rfl) (fun _ _ _ h => h) rfl hS0 (by intro W hW; go_simp) ?_
  try simp only [Act.put, List.setIfInBounds_toArray, List.set_cons_zero, List.set_cons_succ]
  refine AnyL.takeAt 4 (.slice pv m cv) rfl (by kernel_rfl) (by kernel_rfl) (by kernel_rfl) (by kernel_rfl) (fun _ _ _ h => h) rfl hS0 (by intro W hW; go_simp) ?_
  try simp only [Act.put, List.setIfInBounds_toArray, List.set_cons_zero, List.set_cons_succ]
  refine AnyL.takeAt 5 (.int .i64 b) rfl (by kernel_rfl) (by kernel_rfl) (by kernel_rfl) (by kernel_rfl) (fun _ _ _ h => h) rfl hS0 (by intro W hW; go_simp) ?_
  try simp only [Act.put, List.setIfInBounds_toArray, List.set_cons_zero, List.set_cons_succ]
  refine AnyL.takeAt 6 (.slice pa 64 ca) rfl (by kernel_rfl) (by kernel_rfl) (by kernel_rfl) (by kernel_rfl) (fun _ _ _ h => h) rfl hS0 (by intro W hW; go_simp) ?_
  try simp only [Act.put, List.setIfInBounds_toArray, List.set_cons_zero, List.set_cons_succ]
  refine AnyL.oneAt 7 rfl (by kernel_rfl) rfl ?_
  intro K hK
  go_simp
  refine ((show ∀ W, Kb 0 w1 W → _ from HPO) W0 HKD).mono ?_
  rintro e W6 ⟨rfl, k6⟩
  have HK6 : Hid (Kb 0 w1 W6) := (show Kb 0 w1 W0 from HKD).trans k6
  obtain ⟨hS6, hown6, h6z⟩ := (show ∀ W, Kb 0 w1 W → _ from HKP) W6 HK6
  have HS6a : Hid (∀ ob, (W6.alloc ob).cell? ⟨dv, 16512, none⟩ = some (.slice pv m cv)) := (fun ob => (kb_alloc 0 W6 ob).cell hS6 : ∀ ob, _)
  clear HPO HKP k6 HKD
  refine hK.out _ _ (fun _ => hS6) ?_
  clear hK K
  try simp only [Act.put, List.setIfInBounds_toArray, List.set_cons_zero, List.set_cons_succ]
  refine AnyL.oneAt 8 rfl (by kernel_rfl) rfl ?_
  intro K hK
  refine wp_exec (exec_build 140 _ _ rfl (by first | rfl | (simp only [List.map_toArray, List.map_cons, List.map_nil]; rfl)) (hbld W6)) ?_
  refine hK.out _ _ (fun _ => hS6) ?_
  clear hK K hbld
  try simp only [Act.put, List.setIfInBounds_toArray, List.set_cons_zero, List.set_cons_succ]
  refine AnyL.oneAt 9 rfl (by kernel_rfl) rfl ?_
  intro K hK
  refine wp_exec (exec_buildS 122 1 _ _ rfl (by first | rfl | (simp only [List.map_toArray, List.map_cons, List.map_nil]; rfl)) (hbs W6)) ?_
  refine hK.out _ _ (fun _ => (show ∀ ob, _ from HS6a) _) ?_
  clear hK K hbs
  try simp only [Act.put, List.setIfInBounds_toArray, List.set_cons_zero, List.set_cons_succ]
  refine AnyL.oneAt 10 rfl (by kernel_rfl) rfl ?_
  intro K hK
  refine wp_append_lies _ (.tmp 23) (.tmp 28) 122 rfl (dv + 1) 140 i1 z1 65 72 Try.underlying122 HI1 hz0 hz1 hz2 hz3 (by decide) (.slice pv m cv) m PC rfl (hown6.alloc _) ⟨W6.heap.size, 0, none⟩ 1 1 CE rfl ((show _ ∧ _ from HCL).1.trans (by rfl)) (qr_cells W6 CE.toArray 140 CE (by simp)) (show _ ∧ _ from HCL).2 (by decide) (by unfold maxLen; omega) (by omega) (by rw [World.size_alloc]; omega) (W6.heap.size + 1) (World.size_alloc _ _) ?_
  intro g cap w8 hown1 hgrow1 hat hlt
  obtain ⟨⟨x1, x2⟩, hDR⟩ := (show ∀ (W6 : World) (ob : Obj) (W8 : World) (g cap : Nat), _ from HPS) W6 _ w8 g cap HK6 hown1 hgrow1
  have HDR : Hid (Dr w0 dv P (m + 1) (fun j => if j = m then ⟨false, b, 64, A⟩ else Q j) (.slice (some ⟨g, 0, none⟩) (m + 1) cap) (w8.setCell ⟨dv, 16512, none⟩ (.slice (some ⟨g, 0, none⟩) (m + 1) cap))) := hDR
  clear HPS hown1 hgrow1 hat hlt hDR hS6 HS6a hown6
  refine hK.out _ _ (fun _ => x1) ?_
  clear hK K
  try simp only [Act.put, List.setIfInBounds_toArray, List.set_cons_zero, List.set_cons_succ]
  refine AnyL.oneAt 11 rfl (by kernel_rfl) rfl ?_
  intro K hK
  go_simp
  refine hK.out _ _ (fun _ => x1) ?_
  clear hK K
  try simp only [Act.put, List.setIfInBounds_toArray, List.set_cons_zero, List.set_cons_succ]
  refine AnyL.oneAt 12 rfl (by kernel_rfl) rfl ?_
  intro K hK
  go_simp
  refine hK.out _ _ (fun _ => x1) ?_
  clear hK K
  try simp only [Act.put, List.setIfInBounds_toArray, List.set_cons_zero, List.set_cons_succ]
  refine AnyL.oneAt 13 rfl (by kernel_rfl) rfl ?_
  intro K hK
  go_simp
  refine hK.out _ _ (fun h => absurd rfl h) ?_
  clear hK K x1 x2
  try simp only [Act.put, List.setIfInBounds_toArray, List.set_cons_zero, List.set_cons_succ]
  refine AnyL.done (by kernel_rfl) ?_
  go_wp2_with fail
  go_ret
  exact ⟨rfl, _, HDR⟩
end Go.Proofs.Ytaggciimacanbaa.Fo

namespace Go.Proofs.Ytaggciimacanbaa.Fo
open Go.ChangeShapes Go.WideShapes Go.ChangeAt Go.RowKit
set_option linter.unusedVariables false
set_option maxRecDepth 100000
set_option linter.unusedSimpArgs false
theorem Dr.ext {w0 : World} {dv : Nat} {P P' : Nat → Nat → Int} {m : Nat} {Q Q' : Nat → Ed} {vw : Value} {W : World} (h : Dr w0 dv P m Q vw W) (hP : ∀ i, i < 258 → P i = P' i) (hQ : ∀ j, j < m → (Q j).b = (Q' j).b ∧ ∀ t, t < 64 → (Q j).A t = (Q' j).A t) : Dr w0 dv P' m Q' vw W := by
  refine ⟨h.kb, h.ge, h.lt, h.bl, pgs_range.2 (fun i hi j hj => by rw [← hP i hi]; exact pgs_range.1 h.rg i hi j hj), h.wt, ?_⟩
  have e : ∀ n, n ≤ m → pcl Q n = pcl Q' n := by
    intro n
    induction n with
    | zero => intro _; rfl
    | succ n ih =>
      intro hn
      rw [pcl, pcl, ih (by omega), (hQ n (by omega)).1, pgl_ext (hQ n (by omega)).2]
  rw [← e m (Nat.le_refl _)]
  exact h.ro
/-- the first i pages of a disk's -/
def fpg (B : Nat → Ed) (i : Nat) : Nat → Nat → Int := fun k => if k < i then (B k).A else fun _ => 0
theorem fpg_up (B : Nat → Ed) (i : Nat) : pup (fpg B i) i (B i).A = fpg B (i + 1) := by
  funext k
  unfold pup fpg
  by_cases e : k = i
  · subst e
    rw [if_pos rfl, if_pos (by omega)]
  · rw [if_neg e]
    by_cases h : k < i
    · rw [if_pos h, if_pos (by omega)]
    · rw [if_neg h, if_neg (by omega)]
set_option maxHeartbeats 16000000 in
theorem im_drive_no {v1 v2 : Value} {D : Dd} (w : World) (ha : RowD 0 w v1 v2 D) (hd : BdD D) (hno : ¬ Dok D) :
    Calls Try.prog 81 #[.agg #[v1, v2]] w fun e w' => e = .returned (.pointer none) ∧ Kb 0 w w' := by
  obtain ⟨⟨p1, c1, rfl, -⟩, ⟨p2, c2, rfl, -⟩⟩ := id ha
  obtain ⟨w1, hw1⟩ : ∃ w1, w1 = w.alloc (.cells #[.slice p1 D.n c1, .slice p2 D.m c2] 30) := ⟨_, rfl⟩
  have k1 : Kb 0 w w1 := by rw [hw1]; exact kb_alloc _ _ _
  have b1 : w1.heap[w.heap.size]? = some (.cells #[.slice p1 D.n c1, .slice p2 D.m c2] 30 (0, 0)) := by rw [hw1]; exact alloc_new _ _ _
  have HI := im_dok w1 (ha.keep k1) hd
  rw [dc_f hno] at HI
  have u0 : w1.cell? ⟨w.heap.size, 0, none⟩ = some (.slice p1 D.n c1) := cell_of b1 rfl
  have u1 : w1.cell? ⟨w.heap.size, 1, none⟩ = some (.slice p2 D.m c2) := cell_of b1 rfl
  have HK : Hid (Kb 0 w w1) := k1
  have HW1 : Hid (w1 = w.alloc (.cells #[.slice p1 D.n c1, .slice p2 D.m c2] 30)) := hw1
  clear hw1 k1 b1 ha hd hno
  go_enter Try.func81, Try.ntmps81
  go_upto_region 1 with fail
  rw [← (show w1 = _ from HW1)]
  clear HW1
  go_wp2_with fail
  refine HI.mono ?_
  rintro e w2 ⟨rfl, k2⟩
  have HF : Hid (Kb 0 w w2) := (show Kb 0 w w1 from HK).trans k2
  clear HI u0 u1 HK k2
  go_wp2_with fail
  go_ret
  exact ⟨rfl, HF⟩
set_option maxHeartbeats 16000000 in
theorem im_drive_yes {v1 v2 : Value} {m : Nat} {B Q : Nat → Ed} (w : World) (ha : RowD 0 w v1 v2 ⟨258, B, m, Q⟩) (hd : BdD ⟨258, B, m, Q⟩) (hok : Dok ⟨258, B, m, Q⟩) :
    Calls Try.prog 81 #[.agg #[v1, v2]] w fun e w' => ∃ dv vw, e = .returned (.pointer (some ⟨dv, 0, none⟩)) ∧ Dr w dv (fun i => (B i).A) m Q vw w' := by
  have hmm : m ≤ 200 := hok.2.1
  have hB64 : ∀ i, i < 258 → (B i).c = 64 := hok.2.2.1
  have hQ64 : ∀ i, i < m → Wok (Q i).b (Q i).c := hok.2.2.2
  obtain ⟨⟨p1, c1, rfl, ha1⟩, ⟨p2, c2, rfl, ha2⟩⟩ := id ha
  dsimp only at ha1 ha2
  obtain ⟨w1, hw1⟩ : ∃ w1, w1 = w.alloc (.cells #[.slice p1 258 c1, .slice p2 m c2] 30) := ⟨_, rfl⟩
  have k1 : Kb 0 w w1 := by rw [hw1]; exact kb_alloc _ _ _
  have b1 : w1.heap[w.heap.size]? = some (.cells #[.slice p1 258 c1, .slice p2 m c2] 30 (0, 0)) := by rw [hw1]; exact alloc_new _ _ _
  have z1 : w.heap.size < w1.heap.size := by rw [hw1, World.size_alloc]; omega
  have HI : Calls Try.prog 66 #[.agg #[.slice p1 258 c1, .slice p2 m c2]] w1 fun e w' => e = .returned (.bool true) ∧ Kb 0 w1 w' := by
    have := im_dok w1 (ha.keep k1) hd
    rw [dc_t hok] at this
    exact this
  have u0 : w1.cell? ⟨w.heap.size, 0, none⟩ = some (.slice p1 258 c1) := cell_of b1 rfl
  have u1 : w1.cell? ⟨w.heap.size, 1, none⟩ = some (.slice p2 m c2) := cell_of b1 rfl
  have HB : Hid (Kb 0 w w1 ∧ w1.heap[w.heap.size]? = some (.cells #[.slice p1 258 c1, .slice p2 m c2] 30 (0, 0)) ∧ w.heap.size < w1.heap.size) := (⟨k1, b1, z1⟩ : _ ∧ _)
  have HA1 : Hid ((∃ a : Addr, p1 = some a ∧ 258 ≤ c1 ∧ ∀ i, i < 258 → ElC 1 0 w (a.add (i * 1)) (B i)) ∧ ∀ i, i < 258 → (B i).c = 64) := (⟨by obtain ⟨a, e1, e2, _, e3⟩ := ha1 (by omega); exact ⟨a, e1, e2, e3⟩, hB64⟩ : _ ∧ _)
  have HA2 : Hid ((0 < m → ∃ a : Addr, p2 = some a ∧ m ≤ c2 ∧ 0 ≤ a.block ∧ ∀ i, i < m → ElC 2 0 w (a.add (i * 2)) (Q i)) ∧ ∀ i, i < m → Wok (Q i).b (Q i).c) := (⟨ha2, hQ64⟩ : _ ∧ _)
  have HW1 : Hid (w1 = w.alloc (.cells #[.slice p1 258 c1, .slice p2 m c2] 30)) := hw1
  clear hw1 k1 b1 z1 ha hd hok hB64 hQ64 ha1 ha2
  go_enter Try.func81, Try.ntmps81
  go_upto_region 1 with fail
  rw [← (show w1 = _ from HW1)]
  clear HW1
  go_wp2_with fail
  refine HI.mono ?_
  rintro e w2 ⟨rfl, k2⟩
  clear HI u0 u1
  obtain ⟨k1, b1, z1⟩ := (show _ ∧ _ ∧ _ from HB)
  obtain ⟨ZD, hZD⟩ : ∃ ZD, ZD = (List.replicate 16512 (Value.int .u8 0) ++ [Value.slice none 0 0]).toArray := ⟨_, rfl⟩
  obtain ⟨w3, hw3⟩ : ∃ w3, w3 = w2.alloc (.cells ZD 124) := ⟨_, rfl⟩
  obtain ⟨dv, hdv⟩ : ∃ dv, dv = w2.heap.size := ⟨_, rfl⟩
  have D0 : Dr w2 dv (fun _ _ => 0) 0 Q (.slice none 0 0) w3 := by rw [hdv]; exact Dr.new hZD hw3 Q
  have HX : Hid (∀ (o : Oper) (a : Act), o.op = .alloc 124 → (execOp a.eval o).run Try.prog w2 = .ok (.value (.pointer (some ⟨dv, 0, none⟩))) w3) := (fun o a ho => by rw [hw3, hdv]; exact exec_drv ho hZD : ∀ (o : Oper) (a : Act), _)
  have HD0 : Hid (Dr w2 dv (fpg B 0) 0 Q (.slice none 0 0) w3) := (D0.ext (fun i _ => by unfold fpg; rw [if_neg (by omega)]) (fun j hj => by omega) : Dr w2 dv (fpg B 0) 0 Q (.slice none 0 0) w3)
  have b2 := (k2.block _ (Nat.zero_le _) z1).trans b1
  have z2 : w.heap.size < w2.heap.size := by have := k2.size; omega
  have HB2 : Hid (Kb 0 w w2 ∧ w2.heap[w.heap.size]? = some (.cells #[.slice p1 258 c1, .slice p2 m c2] 30 (0, 0)) ∧ w.heap.size < w2.heap.size) := (⟨k1.trans k2, b2, z2⟩ : _ ∧ _)
  have k3 : Kb 0 w2 w3 := by rw [hw3]; exact kb_alloc _ _ _
  have b3 := (k3.block _ (Nat.zero_le _) z2).trans b2
  have u0 : w3.cell? ⟨w.heap.size, 0, none⟩ = some (.slice p1 258 c1) := cell_of b3 rfl
  clear k1 b1 z1 hZD hw3 hdv D0 b2 z2 k3 b3 k2 HB
  go_wp2_with (refine Go.Great.wpList_runTo (by rfl) (some 11) (by rfl) (.pointer (some ⟨dv, 0, none⟩)) w3 ((show ∀ (o : Oper) (a : Act), _ from HX) _ _ (by rfl)) ?_)
  clear HX u0
  go_loopw [15] (fun s15 wr => ∃ i : Nat, s15 = .int .i64 (i : Int) ∧ i ≤ 258 ∧ Hid (Dr w2 dv (fpg B i) 0 Q (.slice none 0 0) wr)) (fun s15 _ => 258 - (intOf s15).toNat)
  case atStart => exact ⟨0, rfl, Nat.zero_le _, HD0⟩
  case round =>
    clear HD0
    obtain ⟨i, rfl, hil, HX⟩ := hrel
    have hX := (show Dr w2 dv (fpg B i) 0 Q (.slice none 0 0) wr from HX)
    clear HX
    obtain ⟨kw2, b2, z2⟩ := (show _ ∧ _ ∧ _ from HB2)
    by_cases hi : i < 258
    case neg =>
      obtain rfl : i = 258 := by omega
      rw [show ((258 : Nat) : Int) = (258 : Int) from rfl]
      have bw := (hX.kb.block _ (Nat.zero_le _) z2).trans b2
      have u1 : wr.cell? ⟨w.heap.size, 1, none⟩ = some (.slice p2 m c2) := cell_of bw rfl
      have HD1 : Hid (∃ vw, Dr w2 dv (fun i => (B i).A) 0 Q vw wr) := (⟨_, hX.ext (fun k hk => by unfold fpg; rw [if_pos hk]) (fun j hj => by omega)⟩ : ∃ vw, Dr w2 dv (fun i => (B i).A) 0 Q vw wr)
      clear hX bw b2 z2 kw2 HA1 hil hi
      go_wp2_with fail
      clear u1
      go_loopw [31] (fun s31 wq => ∃ j : Nat, s31 = .int .i64 (j : Int) ∧ j ≤ m ∧ Hid (∃ vw, Dr w2 dv (fun i => (B i).A) j Q vw wq)) (fun s31 _ => m - (intOf s31).toNat)
      case atStart => exact ⟨0, rfl, Nat.zero_le _, HD1⟩
      case round =>
        clear HD1
        obtain ⟨j, rfl, hjl, HY⟩ := hrel
        obtain ⟨vw, hY⟩ := (show ∃ vw, Dr w2 dv (fun i => (B i).A) j Q vw wr from HY)
        clear HY
        obtain ⟨kw2, b2, z2⟩ := (show _ ∧ _ ∧ _ from HB2)
        by_cases hj : j < m
        case neg =>
          obtain rfl : j = m := by omega
          have HE : Hid (Dr w dv (fun i => (B i).A) j Q vw wr) := hY.low kw2
          clear hY kw2 b2 z2 HA2 HB2
          go_wp2_with fail
          go_ret
          exact ⟨_, _, rfl, HE⟩
        obtain ⟨h2, hq⟩ := (show _ ∧ _ from HA2)
        obtain ⟨a, rfl, hca, _, hra⟩ := h2 (by omega)
        have kwr := kw2.trans hY.kb
        obtain ⟨vc, x0, xt, hvc⟩ := (hra j hj).keep (.inr (.inl rfl)) (Nat.zero_le _) kwr
        obtain ⟨ob1, ob2, ob3⟩ := hq j hj
        rw [ob3] at hvc
        obtain ⟨q0, r0, rfl, -⟩ := id hvc
        have d0 : wr.cell? (a.add (j * 2)) = some (.int .i64 (Q j).b) := x0
        have d1 : wr.cell? ⟨(a.add (j * 2)).block, (a.add (j * 2)).off + 1, none⟩ = some (.slice q0 64 r0) := xt 1 (by omega) (by omega)
        have hjI : (j : Int) < (m : Int) := by omega
        obtain ⟨fb, hfbe⟩ : ∃ fb, fb = (Q j).b := ⟨_, rfl⟩
        have HPU : Hid (∀ W, Kb 0 wr W → Calls Try.prog 84 #[.pointer (some ⟨dv, 0, none⟩), .int .i64 fb, .slice q0 64 r0] W fun e w' => e = .returned (.bool true) ∧ ∃ vw', Dr w2 dv (fun i => (B i).A) (j + 1) Q vw' w') := (fun W k => by
          rw [hfbe]
          refine (im_put_yes (A := (Q j).A) (Q j).b W (hY.keep k) (hvc.keep k).row ⟨ob1, ob2⟩ (by omega)).mono ?_
          rintro e w' ⟨rfl, vw', hD⟩
          refine ⟨rfl, vw', hD.ext (fun _ _ => rfl) (fun t ht => ?_)⟩
          by_cases e : t = j
          · rw [if_pos e, e]
            exact ⟨rfl, fun _ _ => rfl⟩
          · rw [if_neg e]
            exact ⟨rfl, fun _ _ => rfl⟩ : ∀ W, _)
        rw [← hfbe] at d0
        clear hY kw2 b2 z2 h2 hq hra kwr x0 xt hvc ob1 ob2 ob3 hfbe HA2 HB2
        go_upto_region 12 with fail
        generalize hw6 : World.alloc wr _ = w6
        have k6 : Kb 0 wr w6 := by rw [← hw6]; exact kb_alloc _ _ _
        have b6 : w6.heap[wr.heap.size]? = some (.cells #[.int .i64 fb, .slice q0 64 r0] 71 (0, 0)) := by rw [← hw6]; exact alloc_new _ _ _
        have y0 : w6.cell? ⟨wr.heap.size, 0, none⟩ = some (.int .i64 fb) := cell_of b6 rfl
        have y1 : w6.cell? ⟨wr.heap.size, 1, none⟩ = some (.slice q0 64 r0) := cell_of b6 rfl
        have HP6 := (show ∀ W, Kb 0 wr W → _ from HPU) w6 k6
        clear hw6 b6 d0 d1 k6 HPU
        go_wp2_with fail
        refine HP6.mono ?_
        rintro e w7 ⟨rfl, HD7⟩
        have HD : Hid (∃ vw, Dr w2 dv (fun i => (B i).A) (j + 1) Q vw w7) := HD7
        clear HP6 HD7 y0 y1
        go_wp2_with fail
        go_roundw
        case rel => exact ⟨j + 1, by go_num, by omega, HD⟩
        case measure => simp [intOf]; omega
    have hI : (i : Int) < 258 := by omega
    obtain ⟨⟨a, rfl, hca, hra⟩, h64⟩ := (show _ ∧ _ from HA1)
    have kwr := kw2.trans hX.kb
    obtain ⟨vc, x0, xt, hvc⟩ := (hra i hi).keep (.inl rfl) (Nat.zero_le _) kwr
    rw [h64 i hi] at hvc
    obtain ⟨q0, r0, rfl, -⟩ := id hvc
    have d0 : wr.cell? (a.add i) = some (.slice q0 64 r0) := by have := x0; rw [Nat.mul_one] at this; exact this
    obtain ⟨PG, hPG⟩ : ∃ PG, PG = pgl (B i).A := ⟨_, rfl⟩
    have HPO : Hid (∀ W, Kb 0 wr W → Calls Try.prog 69 #[.slice q0 64 r0] W fun e w' => e = .returned (.agg PG.toArray) ∧ Kb 0 W w') := (fun W k => by
      have e : pgl (pad 64 (B i).A) = pgl (B i).A := pgl_ext (fun j hj => by unfold pad; rw [if_pos hj])
      rw [hPG, ← e]
      exact im_pageof W (hvc.keep k).row (Nat.le_refl _) : ∀ W, _)
    have HPG : Hid (∀ W, Kb 0 wr W → W.there dv (i * 64) PG.toArray.size ∧ Dr w2 dv (fpg B (i + 1)) 0 Q (.slice none 0 0) (W.setCells dv (i * 64) PG.toArray.toList)) := (fun W k => by
      have hD := (hX.keep k).page hi (B i).A _ rfl
      rw [fpg_up] at hD
      rw [hPG]
      refine ⟨?_, hD⟩
      have := (hX.keep k).there hi
      rw [List.size_toArray, pgl_len]
      exact this : ∀ W, _)
    have HPC : Hid ((Try.prog.info? 92).map (·.size) = some PG.toArray.size ∧ PG.toArray.all (·.oneCell') = true) := (⟨by rw [List.size_toArray, hPG, pgl_len]; exact infoP, by rw [hPG]; exact all_oneCell_toArray (pgl_one _)⟩ : _ ∧ _)
    clear hX kw2 b2 z2 hra h64 kwr x0 xt hvc hPG
    go_upto_region 7 with fail
    refine AnyL.region (S := fun _ => True) (z := 100) (by kernel_rfl) ?_
    have HKD : Hid (Kb 0 wr wr.drew) := (Kb.drewN (Kb.refl _ _) 1 : Kb 0 wr wr.drew)
    have hS0 : (fun _ : World => True) wr.drew := trivial
    obtain ⟨W0, hW0⟩ : ∃ W0, W0 = wr.drew := ⟨_, rfl⟩
    rw [← hW0] at HKD ⊢
    rw [← hW0] at hS0
    clear hW0 d0
    refine AnyL.takeAt 0 (.pointer (some ⟨dv, 0, none⟩)) rfl (by kernel_rfl) (by kernel_rfl) (by kernel_rfl) (by kernel_rfl) (fun _ _ _ h => h) rfl hS0 (by intro W hW; go_simp) ?_
    try simp only [Act.put, List.setIfInBounds_toArray, List.set_cons_zero, List.set_cons_succ]
    refine AnyL.takeAt 1 (.int .i64 (i : Int)) rfl (by kernel_rfl) (by kernel_rfl) (by kernel_rfl) (by kernel_rfl) (fun _ _ _ h => h) rfl hS0 (by intro W hW; go_simp) ?_
    try simp only [Act.put, List.setIfInBounds_toArray, List.set_cons_zero, List.set_cons_succ]
    refine AnyL.takeAt 2 (.slice q0 64 r0) rfl (by kernel_rfl) (by kernel_rfl) (by kernel_rfl) (by kernel_rfl) (fun _ _ _ h => h) rfl hS0 (by intro W hW; go_simp) ?_
    try simp only [Act.put, List.setIfInBounds_toArray, List.set_cons_zero, List.set_cons_succ]
    refine AnyL.takeAt 4 (.pointer (some ⟨dv, 0, none⟩)) rfl (by kernel_rfl) (by kernel_rfl) (by kernel_rfl) (by kernel_rfl) (fun _ _ _ h => h) rfl hS0 (by intro W hW; go_simp) ?_
    try simp only [Act.put, List.setIfInBounds_toArray, List.set_cons_zero, List.set_cons_succ]
    refine AnyL.takeAt 5 (.pointer (some ⟨dv, 0, none⟩)) rfl (by kernel_rfl) (by kernel_rfl) (by kernel_rfl) (by kernel_rfl) (fun _ _ _ h => h) rfl hS0 (by intro W hW; go_simp) ?_
    try simp only [Act.put, List.setIfInBounds_toArray, List.set_cons_zero, List.set_cons_succ]
    refine AnyL.oneAt 3 rfl (by kernel_rfl) rfl ?_
    intro K hK
    go_simp
    refine ((show ∀ W, Kb 0 wr W → _ from HPO) W0 HKD).mono ?_
    rintro e W6 ⟨rfl, k6⟩
    obtain ⟨t6, HD6⟩ := (show ∀ W, Kb 0 wr W → _ from HPG) W6 ((show Kb 0 wr W0 from HKD).trans k6)
    clear HPO HPG k6 HKD
    refine hK.out _ _ (fun _ => trivial) ?_
    clear hK K
    try simp only [Act.put, List.setIfInBounds_toArray, List.set_cons_zero, List.set_cons_succ]
    refine AnyL.oneAt 6 rfl (by kernel_rfl) rfl ?_
    intro K hK
    go_simp
    refine hK.out _ _ (fun _ => trivial) ?_
    clear hK K
    try simp only [Act.put, List.setIfInBounds_toArray, List.set_cons_zero, List.set_cons_succ]
    refine AnyL.oneAt 7 rfl (by kernel_rfl) rfl ?_
    intro K hK
    refine wp_store_mid 92 (.tmp 26) (.tmp 23) rfl dv (i * 64) PG.toArray (by first | rfl | simp [Act.eval, Addr.add]) rfl t6 (show _ ∧ _ from HPC).1 (show _ ∧ _ from HPC).2 ?_
    refine hK.out _ _ (fun _ => trivial) ?_
    clear hK K t6
    try simp only [Act.put, List.setIfInBounds_toArray, List.set_cons_zero, List.set_cons_succ]
    refine AnyL.done (by kernel_rfl) ?_
    have HD : Hid (Dr w2 dv (fpg B (i + 1)) 0 Q (.slice none 0 0) _) := HD6
    clear HD6
    go_wp2_with fail
    go_roundw
    case rel => exact ⟨i + 1, by go_num, by omega, HD⟩
    case measure => simp [intOf]; omega
end Go.Proofs.Ytaggciimacanbaa.Fo

namespace Go.Proofs.Ytaggciimacanbaa.Fo
open Go.ChangeShapes Go.WideShapes Go.ChangeAt Go.RowKit
set_option linter.unusedVariables false
set_option maxRecDepth 100000
set_option linter.unusedSimpArgs false
/-- the pages behind the first k writes -/
def stl (P : Nat → Nat → Int) (Q : Nat → Ed) : Nat → Nat → Nat → Int
  | 0 => P
  | k + 1 => pup (stl P Q k) (Q k).b.toNat (Q k).A
def Z65 : Array Value := (Value.int .i64 0 :: pgl (fun _ => 0)).toArray
theorem und_pend : ∃ d, Try.prog.underlying 140 = some d ∧ d.isRow = true := ⟨_, Try.underlying140, rfl⟩
theorem info_pend : (Try.prog.info? 140).map (·.size) = some 65 := by kernel_rfl
theorem pend_new (W : World) (CE : List Value) (hl : CE.length = 65) (W5 : World) (h : W5 = (W.alloc (.cells Z65 140)).setCells W.heap.size 0 CE) : (W.alloc (.cells Z65 140)).there W.heap.size 0 CE.toArray.size ∧ Kb 0 W W5 ∧ W5.rangeAt W.heap.size 0 CE ∧ W5.heap.size = W.heap.size + 1 := by
  have b1 : (W.alloc (.cells Z65 140)).heap[W.heap.size]? = some (.cells Z65 140 (0, 0)) := alloc_new _ _ _
  have t1 : (W.alloc (.cells Z65 140)).there W.heap.size 0 65 := there_blk b1 0 65 (by show 0 + 65 ≤ 65; omega)
  obtain ⟨g1, g2, g3, g4⟩ := setCells_frame W.heap.size CE 0 (W.alloc (.cells Z65 140))
  rw [← h] at g1 g2 g3 g4
  have ka := kb_alloc 0 W (.cells Z65 140)
  refine ⟨(by rw [hl]; exact t1 : (W.alloc (.cells Z65 140)).there W.heap.size 0 CE.length), ⟨g1.trans ka.os, g2.trans ka.output, by rw [g3]; exact ka.size, fun q h1 h2 => (g4 q (by omega)).trans (ka.block q h1 h2)⟩, ?_, by rw [g3, World.size_alloc]⟩
  rw [h]
  exact World.rangeAt_setCells_same _ _ _ _ (by rw [hl]; exact t1)
set_option maxHeartbeats 16000000 in
theorem im_sync {w0 : World} {dv : Nat} {P : Nat → Nat → Int} {m : Nat} {Q : Nat → Ed} {vw : Value} (w : World) (h : Dr w0 dv P m Q vw w) (hm : m ≤ 200) (hq : ∀ j, j < m → 0 ≤ (Q j).b ∧ (Q j).b < 258) (Q' : Nat → Ed) :
    Calls Try.prog 89 #[.pointer (some ⟨dv, 0, none⟩)] w fun e w' => e = .returned (.tuple #[]) ∧ Dr w0 dv (stl P Q m) 0 Q' (.slice none 0 0) w' := by
  obtain ⟨pv, cv, rfl⟩ := h.shape
  have c0 := h.wt
  have HD0 : Hid (Dr w0 dv (stl P Q 0) m Q (.slice pv m cv) w) := h
  have HQ : Hid (∀ j, j < m → 0 ≤ (Q j).b ∧ (Q j).b < 258) := hq
  clear h hq
  go_enter Try.func89, Try.ntmps89
  go_wp2_with fail
  clear c0
  go_loopw [9] (fun s9 wr => ∃ i : Nat, s9 = .int .i64 (i : Int) ∧ i ≤ m ∧ Hid (Dr w0 dv (stl P Q i) m Q (.slice pv m cv) wr)) (fun s9 _ => m - (intOf s9).toNat)
  case atStart => exact ⟨0, rfl, Nat.zero_le _, HD0⟩
  case round =>
    clear HD0
    obtain ⟨i, rfl, hil, HX⟩ := hrel
    have hX := (show Dr w0 dv (stl P Q i) m Q (.slice pv m cv) wr from HX)
    clear HX
    by_cases hi : i < m
    case neg =>
      obtain rfl : i = m := by omega
      have c0 := hX.wt
      have fz := hX.fz 16512
      have HE : Hid (Dr w0 dv (stl P Q i) 0 Q' (.slice none 0 0) (wr.setCell ⟨dv, 16512, none⟩ (.slice none 0 0))) := hX.empty Q' _ rfl
      clear hX HQ
      go_wp2_with fail
      first | go_ret | (refine Go.Great.bodyPost_end0 rfl rfl ?_)
      exact ⟨rfl, HE⟩
    have hiI : (i : Int) < (m : Int) := by omega
    obtain ⟨g, cap, eg, hgd, hgc, hcell⟩ := own_cells hX.ro (by omega)
    injection eg with eg1 _ eg3
    subst eg1
    subst eg3
    obtain ⟨CE, hCE⟩ : ∃ CE, CE = (Value.int .i64 (Q i).b :: pgl (Q i).A) := ⟨_, rfl⟩
    have hCl : CE.length = 65 := by rw [hCE, List.length_cons, pgl_len]
    have hCr : wr.rangeAt g (i * 65) CE := fun t v hv => by
      have ht : t < 65 := by have := (List.getElem?_eq_some_iff.1 hv).1; omega
      have h2 : (i + 1) * 65 ≤ m * 65 := Nat.mul_le_mul_right 65 hi
      rw [hcell (i * 65 + t) (by omega), pcl_at Q t ht m i hi, ← hCE]
      exact hv
    obtain ⟨W5, hW5⟩ : ∃ W5, W5 = (wr.alloc (.cells Z65 140)).setCells wr.heap.size 0 CE := ⟨_, rfl⟩
    obtain ⟨t5, k5, r5, z5⟩ := pend_new wr CE hCl W5 hW5
    obtain ⟨fb, hfb⟩ : ∃ fb, fb = (Q i).b := ⟨_, rfl⟩
    obtain ⟨PG, hPG⟩ : ∃ PG, PG = pgl (Q i).A := ⟨_, rfl⟩
    obtain ⟨hf0, hf1⟩ := (show ∀ j, j < m → _ from HQ) i hi
    rw [← hfb] at hf0 hf1
    have hc5 : W5.cell? ⟨wr.heap.size, 0, none⟩ = some (.int .i64 fb) := by
      have := r5 0 (.int .i64 fb) (by rw [hCE, hfb]; rfl)
      rw [Nat.zero_add] at this
      exact this
    have hr5 : W5.rangeAt wr.heap.size 1 PG := fun t v hv => by
      have := r5 (t + 1) v (by rw [hCE, List.getElem?_cons_succ, ← hPG]; exact hv)
      rw [show 1 + t = 0 + (t + 1) by omega]
      exact this
    obtain ⟨dR, hdR, hrow⟩ := und_pend
    have HRR : Hid (wr.rangeAt g (i * 65) CE ∧ (Try.prog.info? 140).map (·.size) = some CE.length ∧ (wr.alloc (.cells Z65 140)).there wr.heap.size 0 CE.toArray.size ∧ (Try.prog.info? 140).map (·.size) = some CE.toArray.size ∧ CE.toArray.all (·.oneCell') = true ∧ W5 = (wr.alloc (.cells Z65 140)).setCells wr.heap.size 0 CE ∧ Try.prog.underlying 140 = some dR ∧ dR.isRow = true) := (⟨hCr, by rw [hCl]; exact info_pend, t5, by rw [List.size_toArray, hCl]; exact info_pend, by rw [hCE]; exact all_oneCell_toArray (fun v hv => by rcases List.mem_cons.1 hv with rfl | hv; rfl; exact pgl_one _ v hv), hW5, hdR, hrow⟩ : _ ∧ _)
    have HST : Hid (∀ W, Kb 0 W5 W → W.there dv (fb.toNat * 64) PG.toArray.size ∧ Dr w0 dv (stl P Q (i + 1)) m Q (.slice (some ⟨g, 0, none⟩) m cv) (W.setCells dv (fb.toNat * 64) PG.toArray.toList) ∧ (W.setCells dv (fb.toNat * 64) PG.toArray.toList).cell? ⟨wr.heap.size, 0, none⟩ = some (.int .i64 fb) ∧ (W.setCells dv (fb.toNat * 64) PG.toArray.toList).rangeAt wr.heap.size 1 PG) := (fun W k => by
      have hb : fb.toNat < 258 := by omega
      have hK := hX.keep (k5.trans k)
      have hD := hK.page hb (Q i).A _ rfl
      have hlt := hX.lt
      have far : ∀ o, (W.setCells dv (fb.toNat * 64) (pgl (Q i).A)).cell? ⟨wr.heap.size, o, none⟩ = W.cell? ⟨wr.heap.size, o, none⟩ := fun o => World.cell?_of_block ((setCells_frame dv (pgl (Q i).A) (fb.toNat * 64) W).2.2.2 wr.heap.size (by omega))
      rw [hPG]
      refine ⟨by have := hK.there hb; rw [List.size_toArray, pgl_len]; exact this, ?_, (far 0).trans (k.cell hc5), fun t v hv => (far _).trans (k.cell (hr5 t v (by rw [hPG]; exact hv)))⟩
      rw [stl, ← hfb]
      exact hD : ∀ W, _)
    have HPC : Hid ((Try.prog.info? 92).map (·.size) = some PG.toArray.size ∧ PG.toArray.all (·.oneCell') = true) := (⟨by rw [List.size_toArray, hPG, pgl_len]; exact infoP, by rw [hPG]; exact all_oneCell_toArray (pgl_one _)⟩ : _ ∧ _)
    have HLP : Hid ((Try.prog.info? 92).map (·.size) = some PG.length) := (by rw [hPG, pgl_len]; exact infoP : (Try.prog.info? 92).map (·.size) = some PG.length)
    have HS5 : Hid (W5.cell? ⟨wr.heap.size, 0, none⟩ = some (.int .i64 fb) ∧ W5.rangeAt wr.heap.size 1 PG) := (⟨hc5, hr5⟩ : _ ∧ _)
    clear hX hgd hgc hcell hCE hCl hCr hW5 t5 k5 r5 z5 hfb hPG hc5 hr5 hdR hrow HQ
    go_upto_region 3 with (first | (refine wpList_load_mid (by rfl) 140 (.tmp 11) (by rfl) g (i * 65) (by first | rfl | simp [Act.eval, Addr.add]) CE dR (show _ ∧ _ from HRR).1 (show _ ∧ _ ∧ _ ∧ _ ∧ _ ∧ _ ∧ _ ∧ _ from HRR).2.2.2.2.2.2.1 (show _ ∧ _ ∧ _ ∧ _ ∧ _ ∧ _ ∧ _ ∧ _ from HRR).2.2.2.2.2.2.2 (show _ ∧ _ ∧ _ from HRR).2.1 ?_) | (refine wpList_store_mid (by rfl) 140 (.tmp 3) (.tmp 12) (by rfl) wr.heap.size 0 CE.toArray (by rfl) (by rfl) (show _ ∧ _ ∧ _ ∧ _ from HRR).2.2.1 (show _ ∧ _ ∧ _ ∧ _ ∧ _ from HRR).2.2.2.1 (show _ ∧ _ ∧ _ ∧ _ ∧ _ ∧ _ from HRR).2.2.2.2.1 ?_))
    generalize hwg : World.setCells _ _ _ _ = wg
    have hwe : wg = W5 := hwg.symm.trans (show _ ∧ _ ∧ _ ∧ _ ∧ _ ∧ _ ∧ _ from HRR).2.2.2.2.2.1.symm
    rw [hwe]
    clear hwg hwe HRR
    refine AnyL.region (S := fun W' => (W'.cell? ⟨wr.heap.size, 0, none⟩ = some (.int .i64 fb) ∧ W'.rangeAt wr.heap.size 1 PG)) (z := 100) (by kernel_rfl) ?_
    have hS0 : (fun W' : World => (W'.cell? ⟨wr.heap.size, 0, none⟩ = some (.int .i64 fb) ∧ W'.rangeAt wr.heap.size 1 PG)) W5.drew := HS5
    have HPG := (show ∀ W, Kb 0 W5 W → _ from HST) W5.drew (Kb.drewN (Kb.refl _ _) 1)
    obtain ⟨W0, hW0⟩ : ∃ W0, W0 = W5.drew := ⟨_, rfl⟩
    rw [← hW0] at hS0 HPG ⊢
    have HD6 : Hid (Dr w0 dv (stl P Q (i + 1)) m Q (.slice (some ⟨g, 0, none⟩) m cv) (W0.setCells dv (fb.toNat * 64) PG.toArray.toList)) := HPG.2.1
    have HPG : Hid (W0.there dv (fb.toNat * 64) PG.toArray.size ∧ (W0.setCells dv (fb.toNat * 64) PG.toArray.toList).cell? ⟨wr.heap.size, 0, none⟩ = some (.int .i64 fb) ∧ (W0.setCells dv (fb.toNat * 64) PG.toArray.toList).rangeAt wr.heap.size 1 PG) := (⟨HPG.1, HPG.2.2⟩ : _ ∧ _)
    clear HST hW0 HS5
    refine AnyL.takeAt 0 (.pointer (some ⟨dv, 0, none⟩)) rfl (by kernel_rfl) (by kernel_rfl) (by kernel_rfl) (by kernel_rfl) (fun _ _ _ h => h) rfl hS0 (by intro W hW; first | go_simp | (obtain ⟨i0, i1⟩ := hW; go_simp)) ?_
    try simp only [Act.put, List.setIfInBounds_toArray, List.set_cons_zero, List.set_cons_succ]
    refine AnyL.takeAt 1 (.pointer (some ⟨wr.heap.size, 0, none⟩)) rfl (by kernel_rfl) (by kernel_rfl) (by kernel_rfl) (by kernel_rfl) (fun _ _ _ h => h) rfl hS0 (by intro W hW; first | go_simp | (obtain ⟨i0, i1⟩ := hW; go_simp)) ?_
    try simp only [Act.put, List.setIfInBounds_toArray, List.set_cons_zero, List.set_cons_succ]
    refine AnyL.takeAt 2 (.int .i64 fb) rfl (by kernel_rfl) (by kernel_rfl) (by kernel_rfl) (by kernel_rfl) (fun _ _ _ h => h) rfl hS0 (by intro W hW; first | go_simp | (obtain ⟨i0, i1⟩ := hW; go_simp)) ?_
    try simp only [Act.put, List.setIfInBounds_toArray, List.set_cons_zero, List.set_cons_succ]
    refine AnyL.takeAt 3 (.pointer (some ⟨wr.heap.size, 1, none⟩)) rfl (by kernel_rfl) (by kernel_rfl) (by kernel_rfl) (by kernel_rfl) (fun _ _ _ h => h) rfl hS0 (by intro W hW; first | go_simp | (obtain ⟨i0, i1⟩ := hW; go_simp)) ?_
    try simp only [Act.put, List.setIfInBounds_toArray, List.set_cons_zero, List.set_cons_succ]
    refine AnyL.takeAt 4 (.agg PG.toArray) rfl (by kernel_rfl) (by kernel_rfl) (by kernel_rfl) (by kernel_rfl) (fun _ _ _ h => h) rfl hS0 (fun W hW => exec_load_mid 92 (.tmp 16) rfl wr.heap.size 1 rfl PG _ hW.2 und_page rfl HLP) ?_
    try simp only [Act.put, List.setIfInBounds_toArray, List.set_cons_zero, List.set_cons_succ]
    refine AnyL.takeAt 5 (.pointer (some ⟨dv, 0, none⟩)) rfl (by kernel_rfl) (by kernel_rfl) (by kernel_rfl) (by kernel_rfl) (fun _ _ _ h => h) rfl hS0 (by intro W hW; first | go_simp | (obtain ⟨i0, i1⟩ := hW; go_simp)) ?_
    try simp only [Act.put, List.setIfInBounds_toArray, List.set_cons_zero, List.set_cons_succ]
    refine AnyL.takeAt 6 (.pointer (some ⟨dv, 0, none⟩)) rfl (by kernel_rfl) (by kernel_rfl) (by kernel_rfl) (by kernel_rfl) (fun _ _ _ h => h) rfl hS0 (by intro W hW; first | go_simp | (obtain ⟨i0, i1⟩ := hW; go_simp)) ?_
    try simp only [Act.put, List.setIfInBounds_toArray, List.set_cons_zero, List.set_cons_succ]
    refine AnyL.oneAt 7 rfl (by kernel_rfl) rfl ?_
    intro K hK
    go_simp
    refine hK.out _ _ (fun _ => hS0) ?_
    clear hK K
    try simp only [Act.put, List.setIfInBounds_toArray, List.set_cons_zero, List.set_cons_succ]
    refine AnyL.oneAt 8 rfl (by kernel_rfl) rfl ?_
    intro K hK
    refine wp_store_mid 92 (.tmp 20) (.tmp 17) rfl dv (fb.toNat * 64) PG.toArray (by first | rfl | simp [Act.eval, Addr.add]) rfl (show _ ∧ _ from HPG).1 (show _ ∧ _ from HPC).1 (show _ ∧ _ from HPC).2 ?_
    refine hK.out _ _ (fun _ => (show _ ∧ _ from HPG).2) ?_
    clear hK K
    try simp only [Act.put, List.setIfInBounds_toArray, List.set_cons_zero, List.set_cons_succ]
    refine AnyL.done (by kernel_rfl) ?_
    clear HPG
    go_wp2_with fail
    go_roundw
    case rel => exact ⟨i + 1, by go_num, by omega, HD6⟩
    case measure => simp [intOf]; omega
end Go.Proofs.Ytaggciimacanbaa.Fo

namespace Go.Proofs.Ytaggciimacanbaa.Fo
open Go.ChangeShapes Go.WideShapes Go.ChangeAt Go.RowKit
set_option linter.unusedVariables false
set_option maxRecDepth 100000
set_option linter.unusedSimpArgs false
/-- what block k reads as behind the first m writes -/
def rdl (P : Nat → Nat → Int) (Q : Nat → Ed) (k : Nat) : Nat → Nat → Int
  | 0 => P k
  | m + 1 => if (Q m).b = (k : Int) then (Q m).A else rdl P Q k m
theorem stl_rdl (P : Nat → Nat → Int) (Q : Nat → Ed) (k : Nat) : ∀ m, (∀ j, j < m → 0 ≤ (Q j).b) → stl P Q m k = rdl P Q k m
  | 0, _ => rfl
  | m + 1, h => by
    have h0 := h m (by omega)
    rw [stl, rdl]
    unfold pup
    by_cases e : (Q m).b = (k : Int)
    · rw [if_pos e, if_pos (by omega)]
    · rw [if_neg e, if_neg (by omega)]
      exact stl_rdl P Q k m (fun j hj => h j (by omega))
/-- the drive of a disk -/
def dpg (D : Dd) : Nat → Nat → Int := fun i => (D.B i).A
theorem im_drive {v1 v2 : Value} {D : Dd} (w : World) (ha : RowD 0 w v1 v2 D) (hd : BdD D) (hok : Dok D) :
    Calls Try.prog 81 #[.agg #[v1, v2]] w fun e w' => ∃ dv vw, e = .returned (.pointer (some ⟨dv, 0, none⟩)) ∧ Dr w dv (dpg D) D.m D.Q vw w' := by
  obtain ⟨n, B, m, Q⟩ := D
  obtain rfl : n = 258 := hok.1
  exact im_drive_yes w ha hd hok
set_option maxHeartbeats 8000000 in
theorem im_settled_no {v1 v2 : Value} {D : Dd} (w : World) (ha : RowD 0 w v1 v2 D) (hd : BdD D) (hno : ¬ Dok D) :
    Calls Try.prog 60 #[.agg #[v1, v2]] w fun e w' => e = .returned (.pointer none) ∧ Kb 0 w w' := by
  obtain ⟨⟨p1, c1, rfl, -⟩, ⟨p2, c2, rfl, -⟩⟩ := id ha
  obtain ⟨w1, hw1⟩ : ∃ w1, w1 = w.alloc (.cells #[.slice p1 D.n c1, .slice p2 D.m c2] 30) := ⟨_, rfl⟩
  have k1 : Kb 0 w w1 := by rw [hw1]; exact kb_alloc _ _ _
  have b1 : w1.heap[w.heap.size]? = some (.cells #[.slice p1 D.n c1, .slice p2 D.m c2] 30 (0, 0)) := by rw [hw1]; exact alloc_new _ _ _
  have u0 : w1.cell? ⟨w.heap.size, 0, none⟩ = some (.slice p1 D.n c1) := cell_of b1 rfl
  have u1 : w1.cell? ⟨w.heap.size, 1, none⟩ = some (.slice p2 D.m c2) := cell_of b1 rfl
  have HI := im_drive_no w1 (ha.keep k1) hd hno
  have HK : Hid (Kb 0 w w1) := k1
  have HW1 : Hid (w1 = w.alloc (.cells #[.slice p1 D.n c1, .slice p2 D.m c2] 30)) := hw1
  clear hw1 k1 b1 ha hd hno
  go_enter Try.func60, Try.ntmps60
  go_upto_region 1 with fail
  rw [← (show w1 = _ from HW1)]
  clear HW1
  go_wp2_with fail
  refine HI.mono ?_
  rintro e w2 ⟨rfl, k2⟩
  have HF : Hid (Kb 0 w w2) := (show Kb 0 w w1 from HK).trans k2
  clear HI u0 u1 HK k2
  go_wp2_with fail
  go_ret
  exact ⟨rfl, HF⟩
set_option maxHeartbeats 8000000 in
theorem im_settled {v1 v2 : Value} {D : Dd} (w : World) (ha : RowD 0 w v1 v2 D) (hd : BdD D) (hok : Dok D) :
    Calls Try.prog 60 #[.agg #[v1, v2]] w fun e w' => ∃ dv, e = .returned (.pointer (some ⟨dv, 0, none⟩)) ∧ Dr w dv (stl (dpg D) D.Q D.m) 0 D.Q (.slice none 0 0) w' := by
  obtain ⟨⟨p1, c1, rfl, -⟩, ⟨p2, c2, rfl, -⟩⟩ := id ha
  obtain ⟨w1, hw1⟩ : ∃ w1, w1 = w.alloc (.cells #[.slice p1 D.n c1, .slice p2 D.m c2] 30) := ⟨_, rfl⟩
  have k1 : Kb 0 w w1 := by rw [hw1]; exact kb_alloc _ _ _
  have b1 : w1.heap[w.heap.size]? = some (.cells #[.slice p1 D.n c1, .slice p2 D.m c2] 30 (0, 0)) := by rw [hw1]; exact alloc_new _ _ _
  have u0 : w1.cell? ⟨w.heap.size, 0, none⟩ = some (.slice p1 D.n c1) := cell_of b1 rfl
  have u1 : w1.cell? ⟨w.heap.size, 1, none⟩ = some (.slice p2 D.m c2) := cell_of b1 rfl
  have HI := im_drive w1 (ha.keep k1) hd hok
  have HSY : Hid (∀ (dv : Nat) (vw : Value) (W : World), Dr w1 dv (dpg D) D.m D.Q vw W → Calls Try.prog 89 #[.pointer (some ⟨dv, 0, none⟩)] W fun e w' => e = .returned (.tuple #[]) ∧ Dr w dv (stl (dpg D) D.Q D.m) 0 D.Q (.slice none 0 0) w') := (fun dv vw W h => im_sync W (h.low k1) hok.2.1 (fun j hj => ⟨(hok.2.2.2 j hj).1, (hok.2.2.2 j hj).2.1⟩) D.Q : ∀ (dv : Nat) (vw : Value) (W : World), _)
  have HW1 : Hid (w1 = w.alloc (.cells #[.slice p1 D.n c1, .slice p2 D.m c2] 30)) := hw1
  clear hw1 k1 b1 ha hd hok
  go_enter Try.func60, Try.ntmps60
  go_upto_region 1 with fail
  rw [← (show w1 = _ from HW1)]
  clear HW1
  go_wp2_with fail
  refine HI.mono ?_
  rintro e w2 ⟨dv, vw, rfl, hD⟩
  have HS := (show ∀ (dv : Nat) (vw : Value) (W : World), _ from HSY) dv vw w2 hD
  clear HI u0 u1 hD HSY
  go_wp2_with fail
  refine HS.mono ?_
  rintro e w3 ⟨rfl, hD⟩
  have HD : Hid (Dr w dv (stl (dpg D) D.Q D.m) 0 D.Q (.slice none 0 0) w3) := hD
  clear HS hD
  go_wp2_with fail
  go_ret
  exact ⟨_, rfl, HD⟩
/-- what ReadBlock answers -/
def Rbk (D : Dd) (b : Int) : Prop := Dok D ∧ 0 ≤ b ∧ b < 258
def rbA (D : Dd) (b : Int) : Nat → Int := rdl (dpg D) D.Q b.toNat D.m
end Go.Proofs.Ytaggciimacanbaa.Fo
