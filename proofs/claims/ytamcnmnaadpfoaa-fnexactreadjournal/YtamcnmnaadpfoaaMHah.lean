import Derived.Test.YtamcnmnaadpfoaaMHaf
import Derived.Test.YtamcnmnaadpfoaaMGec
import Derived.Test.YtamcnmnaadpfoaaMGeg
namespace Go.Proofs.Ytamcnmnaadpfoaa.Fo
open Go.ChangeShapes Go.WideShapes Go.ChangeAt Go.RowKit
set_option linter.unusedVariables false
set_option maxRecDepth 100000
theorem arr_same {c : Array Value} {j : Nat} {v : Value} (h : c[j]? = some v) : c.setIfInBounds j v = c := by
  apply Array.ext_getElem?
  intro i
  rw [Array.getElem?_setIfInBounds]
  split
  · rename_i e
    subst e
    split
    · exact h.symm
    · rename_i q
      rw [Array.getElem?_eq_none (by omega)]
  · rfl
/-- a store of what is there changes nothing -/
theorem set_same {W : World} {b j : Nat} {c : Array Value} {t : TypeId} {v : Value} (h : W.heap[b]? = some (.cells c t (0, 0))) (hv : W.cell? ⟨b, j, none⟩ = some v) : Kb 0 W (W.setCell ⟨b, j, none⟩ v) := by
  have hc : c[j]? = some v := by
    cases e : c[j]? with
    | none => 
      have q : W.cell? ⟨b, j, none⟩ = c[j]? := by unfold World.cell?; simp [h]
      rw [q, e] at hv
      cases hv
    | some u =>
      have q := cell_of h e
      rw [hv] at q
      exact q.symm
  refine ⟨rfl, rfl, by rw [World.size_setCell]; exact Nat.le_refl _, fun g _ hg => ?_⟩
  by_cases e : g = b
  · subst e
    rw [set_known v h, arr_same hc, h]
  · exact Below.heap_setCell _ _ _ _ e
end Go.Proofs.Ytamcnmnaadpfoaa.Fo

namespace Go.Proofs.Ytamcnmnaadpfoaa.Fo
open Go.ChangeShapes Go.WideShapes Go.ChangeAt Go.RowKit
set_option linter.unusedVariables false
set_option maxRecDepth 100000
theorem own_blk {W : World} {B : Nat} {t : TypeId} {s n : Nat} {v : Value} {l : List Value} (h : W.ownsRow B t s v n l) (hn : 0 < n) : ∃ g cap cur, v = .slice (some ⟨g, 0, none⟩) n cap ∧ v.ownBlock = some g ∧ B ≤ g ∧ g < W.heap.size ∧ n ≤ cap ∧ W.heap[g]? = some (.cells cur t (0, 0)) ∧ ∀ i, i < n * s → W.cell? ⟨g, i, none⟩ = l[i]? := by
  obtain ⟨g, cap, e, hB, hc, hcell⟩ := own_cells h hn
  have e2 : v.ownBlock = some g := by rw [e]; rfl
  obtain ⟨cur, hcur⟩ := own_vt h e2
  exact ⟨g, cap, cur, e, e2, hB, (h.lt g e2).2, hc, hcur, hcell⟩
theorem own_v {W : World} {B c : Nat} {v : Value} {o : List Int} {C : Nat → Gv} (h : W.ownsRow B 41 4 v c (vcl o C c)) : OwV W v (v.ownBlock.getD 0) c := by
  obtain ⟨p, cap, hp⟩ := own_shape h
  refine ⟨p, cap, hp, fun hc => ?_⟩
  obtain ⟨g, cap', cur, e, e2, hB, hlt, hcap, hcur, hcell⟩ := own_blk h hc
  rw [hp] at e
  injection e with e3 _ e4
  have e5 : v.ownBlock.getD 0 = g := by rw [e2]; rfl
  rw [e5]
  refine ⟨e3, by omega, fun j hj => ?_, fun j => frozen_of hcur⟩
  have hl : (vcl o C c)[j]? = some ((vcl o C c)[j]'(by rw [vcl_len]; exact hj)) := List.getElem?_eq_getElem _
  exact ⟨_, (hcell j hj).trans hl⟩
theorem FE.tx {w : World} {n : Nat} {F : Nat → Td} {o : List Int} {vn : Value} {V : Nat → Value} {W : World} (h : FE w n F o vn V W) : RowTX w.heap.size W vn o.length (cnF F o) := by
  refine ⟨h.row, vn.ownBlock.getD 0, V, fun k => (V k).ownBlock.getD 0, ?_⟩
  obtain ⟨p, cap, hp⟩ := own_shape h.nn
  have hg : 0 < o.length → ∃ g cur, vn.ownBlock = some g ∧ vn.ownBlock.getD 0 = g ∧ p = some ⟨g, 0, none⟩ ∧ o.length ≤ cap ∧ w.heap.size ≤ g ∧ g < W.heap.size ∧ W.heap[g]? = some (.cells cur 50 (0, 0)) ∧ ∀ i, i < o.length * 2 → W.cell? ⟨g, i, none⟩ = (ncl F o V o.length)[i]? := fun hn => by
    obtain ⟨g, cap', cur, e, e2, hB, hlt, hcap, hcur, hcell⟩ := own_blk h.nn hn
    rw [hp] at e
    injection e with e3 _ e4
    exact ⟨g, cur, e2, by rw [e2]; rfl, e3, by omega, hB, hlt, hcur, hcell⟩
  refine ⟨⟨p, cap, hp, fun hn => ?_⟩, fun hn => ?_, fun i hi => ?_, fun i hi => ?_, fun hn j => ?_, fun i hi => own_v (h.vs i hi), fun i hi hc => ?_, fun i j hi hj hne hc1 hc2 => ?_⟩
  · obtain ⟨g, cur, e1, e2, e3, e4, e5, e6, e7, e8⟩ := hg hn
    rw [e2]; exact ⟨e3, e4⟩
  · obtain ⟨g, cur, e1, e2, e3, e4, e5, e6, e7, e8⟩ := hg hn
    rw [e2]; exact ⟨e5, e6⟩
  · obtain ⟨g, cur, e1, e2, e3, e4, e5, e6, e7, e8⟩ := hg (by omega)
    rw [e2]
    exact ⟨_, (e8 (i * 2) (by omega)).trans (ncl_at F o V (t := 0) (by omega) hi)⟩
  · obtain ⟨g, cur, e1, e2, e3, e4, e5, e6, e7, e8⟩ := hg (by omega)
    rw [e2]
    exact (e8 (i * 2 + 1) (by omega)).trans (ncl_at F o V (t := 1) (by omega) hi)
  · obtain ⟨g, cur, e1, e2, e3, e4, e5, e6, e7, e8⟩ := hg hn
    rw [e2]; exact frozen_of e7
  · obtain ⟨g, cur, e1, e2, e3, e4, e5, e6, e7, e8⟩ := hg (by omega)
    obtain ⟨g', cap', cur', f1, f2, f3, f4, f5, f6, f7⟩ := own_blk (h.vs i hi) hc
    have e9 : (V i).ownBlock.getD 0 = g' := by rw [f2]; rfl
    show w.heap.size ≤ (V i).ownBlock.getD 0 ∧ _ ∧ _
    rw [e9, e2]
    refine ⟨f3, f4, fun q => ?_⟩
    have := own_ne (h.vs i hi) h.nn (by decide) f2
    rw [e1] at this
    exact this (by rw [q])
  · obtain ⟨g1, _, _, _, f2, _⟩ := own_blk (h.vs i hi) hc1
    obtain ⟨g2, _, _, _, f4, _⟩ := own_blk (h.vs j hj) hc2
    show (V i).ownBlock.getD 0 ≠ (V j).ownBlock.getD 0
    rw [f2, f4]
    show g1 ≠ g2
    rcases Nat.lt_or_gt_of_ne hne with q | q
    · exact h.dv i j q hj g1 g2 f2 f4
    · exact fun e => h.dv j i q hi g2 g1 f4 f2 e.symm
end Go.Proofs.Ytamcnmnaadpfoaa.Fo
