import Derived.Deep.MidRow
import Derived.Deep.WholeRow
import Derived.Test.YtiojjejphdhpeaaMSua
namespace Go.Proofs.Ytiojjejphdhpeaa.Fo
open Go.ChangeShapes Go.WideShapes Go.ChangeAt Go.RowKit
set_option linter.unusedVariables false
set_option maxRecDepth 100000
/-- the cells of a page -/
def pgl (A : Nat → Int) : List Value := (List.range 64).map (fun j => .int .u8 (A j))
theorem pgl_len (A : Nat → Int) : (pgl A).length = 64 := by unfold pgl; simp
theorem pgl_at (A : Nat → Int) (j : Nat) (h : j < 64) : (pgl A)[j]? = some (.int .u8 (A j)) := by unfold pgl; simp [h]
theorem pgl_one (A : Nat → Int) : ∀ v ∈ pgl A, v.oneCell' = true := fun v hv => by
  unfold pgl at hv
  obtain ⟨j, _, rfl⟩ := List.mem_map.1 hv
  rfl
theorem pgl_ext {A B : Nat → Int} (h : ∀ j, j < 64 → A j = B j) : pgl A = pgl B := by
  unfold pgl
  exact List.map_congr_left (fun j hj => by rw [h j (List.mem_range.1 hj)])
/-- bytes with zeros behind them -/
def pad (n : Nat) (A : Nat → Int) : Nat → Int := fun j => if j < n then A j else 0
theorem infoP : (Try.prog.info? 92).map (·.size) = some 64 := by kernel_rfl
theorem infoU : (Try.prog.info? 5).map (·.size) = some 1 := by kernel_rfl
theorem und_page : Try.prog.underlying 92 = some (.array 64 5) := by kernel_rfl
def Z64 : Array Value := Array.replicate 64 (.int .u8 0)
theorem z64_pg : Z64.toList = pgl (fun _ => 0) := by
  unfold Z64 pgl
  rw [Array.toList_replicate]
  rfl
theorem two_new (w : World) (a b : Array Value) (t1 t2 : TypeId) (W : World) (h : W = (w.alloc (.cells a t1)).alloc (.cells b t2)) : W.heap[w.heap.size]? = some (.cells a t1 (0, 0)) ∧ W.heap[w.heap.size + 1]? = some (.cells b t2 (0, 0)) ∧ W.heap.size = w.heap.size + 2 ∧ Kb 0 w W := by
  subst h
  have e1 : (w.alloc (.cells a t1)).heap.size = w.heap.size + 1 := World.size_alloc _ _
  refine ⟨?_, ?_, by rw [World.size_alloc, e1], kb_alloc2 _ _ _ _⟩
  · rw [(kb_alloc 0 _ _).block _ (Nat.zero_le _) (by omega)]
    exact alloc_new _ _ _
  · rw [← e1]
    exact alloc_new _ _ _
theorem setCells_frame (b : Nat) : ∀ (vs : List Value) (o : Nat) (w : World), (w.setCells b o vs).os = w.os ∧ (w.setCells b o vs).output = w.output ∧ (w.setCells b o vs).heap.size = w.heap.size ∧ ∀ k, k ≠ b → (w.setCells b o vs).heap[k]? = w.heap[k]?
  | [], _, _ => ⟨rfl, rfl, rfl, fun _ _ => rfl⟩
  | v :: r, o, w => by
    obtain ⟨h1, h2, h3, h4⟩ := setCells_frame b r (o + 1) (w.setCell ⟨b, o, none⟩ v)
    rw [World.setCells]
    exact ⟨h1, h2, h3.trans (World.size_setCell _ _ _), fun k hk => (h4 k hk).trans (Below.heap_setCell _ _ _ _ hk)⟩
theorem range_blk {W : World} {b : Nat} {c : Array Value} {t : TypeId} {fr : Nat × Nat} (h : W.heap[b]? = some (.cells c t fr)) : W.rangeAt b 0 c.toList := fun j v hv => by
  simp only [World.cell?, h, Nat.zero_add]
  simpa using hv
theorem there_blk {W : World} {b : Nat} {c : Array Value} {t : TypeId} (h : W.heap[b]? = some (.cells c t (0, 0))) (o n : Nat) (hn : o + n ≤ c.size) : W.there b o n := fun j hj => by
  refine ⟨?_, frozen_of h⟩
  have : o + j < c.size := by omega
  simp [World.cell?, h, this]
set_option maxHeartbeats 4000000 in
theorem im_pageof {va : Value} {n : Nat} {A : Nat → Int} (w : World) (ha : RowV w va n (fun i => .int .u8 (A i))) (hn : n ≤ 64) :
    Calls Try.prog 69 #[va] w fun e w' => e = .returned (.agg (pgl (pad n A)).toArray) ∧ Kb 0 w w' := by
  obtain ⟨pa, ca, rfl, ha2⟩ := ha
  obtain ⟨w2, hw2⟩ : ∃ w2, w2 = (w.alloc (.cells Z64 92)).alloc (.cells Z64 92) := ⟨_, rfl⟩
  obtain ⟨b1, b2, z2, k2⟩ := two_new w _ _ _ _ w2 hw2
  obtain ⟨cs, hcs⟩ : ∃ cs, cs = ((List.range n).map (fun j => Value.int .u8 (A j))) := ⟨_, rfl⟩
  have hcl : cs.length = n := by rw [hcs]; simp
  have hc1 : ∀ v ∈ cs, v.oneCell' = true := fun v hv => by
    rw [hcs] at hv
    obtain ⟨j, _, rfl⟩ := List.mem_map.1 hv
    rfl
  have hca : ∀ j, j < n → cs[j]? = some (.int .u8 (A j)) := fun j hj => by rw [hcs]; simp [hj]
  have t2 : w2.there (w.heap.size + 1) 0 n := there_blk b2 0 n (by show 0 + n ≤ 64; omega)
  obtain ⟨w3, hw3⟩ : ∃ w3, w3 = w2.setCells (w.heap.size + 1) 0 cs := ⟨_, rfl⟩
  have hcp : (Builtin.copy_ #[26, 26] 3 #[.slice (some ⟨w.heap.size + 1, 0, none⟩) 64 64, .slice pa n ca]).run Try.prog w2 = .ok (.int .i64 (n : Int)) w3 := by
    by_cases h0 : n = 0
    · have e := run_copy_none (P := Try.prog) w2 26 26 3 5 (some ⟨w.heap.size + 1, 0, none⟩) pa 64 64 n ca Try.underlying26 infoU (by rw [h0]; rfl)
      rw [e, hw3, hcs, h0]
      rfl
    · obtain ⟨a, rfl, hcc, hra⟩ := ha2 (by omega)
      have e := run_copy_cells (P := Try.prog) w2 26 26 3 5 (w.heap.size + 1) 0 64 64 a n ca cs Try.underlying26 infoU (by rw [hcl]; exact (Nat.min_eq_left hn).symm) (fun j v hv => by
        have hj : j < n := by rw [← hcl]; exact (List.getElem?_eq_some_iff.1 hv).1
        rw [hca j hj] at hv
        injection hv with hv
        subst hv
        exact k2.cell (hra j hj)) (fun j hj => (t2 j (by omega)).1) (fun j hj => (t2 j (by omega)).2) hc1
      rw [e, hw3, hcl]
      rfl
  obtain ⟨f1, f2, f3, f4⟩ := setCells_frame (w.heap.size + 1) cs 0 w2
  rw [← hw3] at f1 f2 f3 f4
  have r3 : w3.rangeAt (w.heap.size + 1) 0 (pgl (pad n A)) := fun j v hv => by
    have hj : j < 64 := by rw [← pgl_len (pad n A)]; exact (List.getElem?_eq_some_iff.1 hv).1
    rw [pgl_at _ j hj] at hv
    injection hv with hv
    subst hv
    rw [hw3]
    unfold pad
    rcases Nat.lt_or_ge j n with h | h
    · rw [if_pos h, World.cell?_setCells_in _ cs 0 w2 (fun i hi => (t2 i (by omega)).1) j (by omega)]
      have := hca j h
      rw [List.getElem?_eq_getElem (by omega)] at this
      exact this
    · rw [if_neg (by omega), World.cell?_setCells_out _ cs 0 w2 _ (fun _ _ => .inr (by show 0 + cs.length ≤ 0 + j; omega))]
      exact range_blk b2 j _ (by rw [z64_pg]; exact pgl_at _ j hj)
  have b13 : w3.heap[w.heap.size]? = some (.cells Z64 92 (0, 0)) := (f4 _ (by omega)).trans b1
  obtain ⟨w4, hw4⟩ : ∃ w4, w4 = w3.setCells w.heap.size 0 (pgl (pad n A)) := ⟨_, rfl⟩
  have t3 : w3.there w.heap.size 0 64 := there_blk b13 0 64 (by show 0 + 64 ≤ 64; omega)
  obtain ⟨g1, g2, g3, g4⟩ := setCells_frame w.heap.size (pgl (pad n A)) 0 w3
  rw [← hw4] at g1 g2 g3 g4
  have r4 : w4.rangeAt w.heap.size 0 (pgl (pad n A)) := by rw [hw4]; exact World.rangeAt_setCells_same _ _ _ _ (by rw [pgl_len]; exact t3)
  have hl4 := run_loadVar_mid (P := Try.prog) w4 w.heap.size 0 92 (pgl (pad n A)) _ r4 und_page rfl (by rw [pgl_len]; exact infoP)
  have kF : Kb 0 w w4 := ⟨g1.trans (f1.trans k2.os), g2.trans (f2.trans k2.output), by have := k2.size; omega, fun q _ hq => (g4 q (by omega)).trans ((f4 q (by omega)).trans (k2.block q (Nat.zero_le _) hq))⟩
  have HF : Hid (Kb 0 w w4) := kF
  have HW : Hid (w2 = (w.alloc (.cells Z64 92)).alloc (.cells Z64 92)) := hw2
  obtain ⟨PG, hPG⟩ : ∃ PG, PG = pgl (pad n A) := ⟨_, rfl⟩
  have hPl : PG.length = 64 := by rw [hPG]; exact pgl_len _
  have hi : (Try.prog.info? 92).map (·.size) = some PG.length := by rw [hPl]; exact infoP
  have hi2 : (Try.prog.info? 92).map (·.size) = some PG.toArray.size := by rw [List.size_toArray]; exact hi
  have h1 : PG.toArray.all (·.oneCell') = true := by rw [hPG]; exact all_oneCell_toArray (pgl_one _)
  rw [← hPG] at hw4 hl4 r3 ⊢
  have t3' : w3.there w.heap.size 0 PG.toArray.size := (by rw [hPl]; exact t3 : w3.there w.heap.size 0 PG.length)
  have HR : Hid (w3.rangeAt (w.heap.size + 1) 0 PG ∧ w3.there w.heap.size 0 PG.toArray.size ∧ w4 = w3.setCells w.heap.size 0 PG.toArray.toList ∧ (Try.prog.info? 92).map (·.size) = some PG.length ∧ (Try.prog.info? 92).map (·.size) = some PG.toArray.size ∧ PG.toArray.all (·.oneCell') = true) := (⟨r3, t3', by rw [List.toList_toArray]; exact hw4, hi, hi2, h1⟩ : _ ∧ _)
  clear ha2 hw2 b1 b2 z2 k2 hcs hcl hc1 hca t2 hw3 f1 f2 f3 f4 r3 b13 hw4 t3 t3' g1 g2 g3 g4 r4 kF hPG hn hPl hi hi2 h1
  go_enter Try.func69, Try.ntmps69
  go_upto_region 2 with fail
  generalize hwg : World.alloc (World.alloc w _) _ = wg
  have hwe : wg = w2 := hwg.symm.trans (show w2 = _ from HW).symm
  rw [hwe]
  clear HW hwg hwe
  go_wp2_with (first | (refine wpList_load_mid (by rfl) 92 (.tmp 3) (by rfl) (w.heap.size + 1) 0 (by rfl) PG _ (show _ ∧ _ from HR).1 und_page rfl (show _ ∧ _ ∧ _ ∧ _ ∧ _ from HR).2.2.2.1 ?_) | (refine wpList_store_mid (by rfl) 92 (.tmp 2) (.tmp 7) (by rfl) w.heap.size 0 PG.toArray (by rfl) (by rfl) (show _ ∧ _ ∧ _ from HR).2.1 (show _ ∧ _ ∧ _ ∧ _ ∧ _ ∧ _ from HR).2.2.2.2.1 (show _ ∧ _ ∧ _ ∧ _ ∧ _ ∧ _ from HR).2.2.2.2.2 ?_; rw [← (show _ ∧ _ ∧ _ ∧ _ from HR).2.2.1]))
  refine bodyPost_ret (v := .agg PG.toArray) ?_ rfl ⟨rfl, HF⟩
  simp [results, Try.results69, asAddr, hl4]
set_option maxHeartbeats 4000000 in
theorem im_bytes {cs : Array Value} (w : World) :
    Calls Try.prog 70 #[.agg cs] w fun e w' => e = .returned (.slice (some ⟨w.heap.size, 0, none⟩) 64 64) ∧ w' = w.alloc (.cells cs 92) := by
  go_enter Try.func70, Try.ntmps70
  go_wp2_with fail
  go_ret
  exact ⟨rfl, rfl⟩
/-- the row that bytes gives -/
theorem own_page {w w' : World} {A : Nat → Int} (h : w' = w.alloc (.cells (pgl A).toArray 92)) : OwnR w' (.slice (some ⟨w.heap.size, 0, none⟩) 64 64) w.heap.size 64 (fun i => .int .u8 (A i)) := by
  have b : w'.heap[w.heap.size]? = some (.cells (pgl A).toArray 92 (0, 0)) := by rw [h]; exact alloc_new _ _ _
  exact ⟨⟨_, _, rfl, fun _ => ⟨rfl, Nat.le_refl _⟩⟩, fun i hi => cell_of b (by simpa using pgl_at A i hi), fun _ j => frozen_of b⟩
end Go.Proofs.Ytiojjejphdhpeaa.Fo
