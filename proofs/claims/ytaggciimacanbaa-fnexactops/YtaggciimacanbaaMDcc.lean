import Derived.Test.YtaggciimacanbaaMDca
import Derived.Test.YtaggciimacanbaaMReg
namespace Go.Proofs.Ytaggciimacanbaa.Fo
open Go.ChangeShapes Go.WideShapes Go.ChangeAt Go.RowKit
set_option linter.unusedVariables false
set_option maxRecDepth 100000
/-- a disk that is being filled, of which i blocks stand -/
def BI (w : World) (F : Nat → Ed) (i : Nat) (v : Value) (wr : World) : Prop := (∃ V G, BE 1 (w.heap.size + 2) 26 wr v i F V G) ∧ wr.heap[w.heap.size]? = some (.cells #[.slice none 0 0, .slice none 0 0] 30 (0, 0)) ∧ wr.heap[w.heap.size + 1]? = some (.cells #[v, .slice none 0 0] 30 (0, 0)) ∧ Kb 0 w wr ∧ w.heap.size + 2 ≤ wr.heap.size
theorem BI.keep {w : World} {F : Nat → Ed} {i : Nat} {v : Value} {wr W : World} (h : BI w F i v wr) (k : Kb 0 wr W) : BI w F i v W := by
  obtain ⟨⟨V, G, hb⟩, r, d, kw, z⟩ := h
  have := k.size
  exact ⟨⟨V, G, hb.keep k.size (fun q _ h2 => k.block q (Nat.zero_le _) h2)⟩, (k.block _ (Nat.zero_le _) (by omega)).trans r, (k.block _ (Nat.zero_le _) (by omega)).trans d, kw.trans k, by omega⟩
theorem BI.start (w : World) (F : Nat → Ed) (W : World) (h : W = (w.alloc (.cells #[.slice none 0 0, .slice none 0 0] 30)).alloc (.cells #[.slice none 0 0, .slice none 0 0] 30)) : BI w F 0 (.slice none 0 0) W := by
  obtain ⟨b1, b2, z2, k2⟩ := two_newD w _ _ _ _ W h
  exact ⟨⟨fun _ => .slice none 0 0, fun _ => 0, BE.nil _ _ _ _ _ _ _⟩, b1, b2, k2, by omega⟩
theorem BI.shape {w : World} {F : Nat → Ed} {i : Nat} {v : Value} {wr : World} (h : BI w F i v wr) : ∃ (ad : Option Addr) (cap : Nat), v = .slice ad i cap := by
  obtain ⟨⟨V, G, hb⟩, _⟩ := h
  exact own_shape hb.ro
theorem BI.step {w : World} {F : Nat → Ed} {i : Nat} {v : Value} {wr W6 : World} {vx : Value} {gx : Nat} (h : BI w F i v wr) (k6 : Kb 0 wr W6) (ox : OwnR W6 vx gx (F i).c (ub (F i).A)) (lx : 0 < (F i).c → wr.heap.size ≤ gx ∧ gx < W6.heap.size) :
    ∃ CL, (W6.cell? ⟨w.heap.size + 1, 0, none⟩ = some v ∧ (∀ ob, (W6.alloc ob).cell? ⟨w.heap.size + 1, 0, none⟩ = some v) ∧ w.heap.size + 2 ≤ W6.heap.size ∧ W6.ownsRow (w.heap.size + 2) 26 1 v i CL) ∧
      ∀ (ob : Obj) (W8 : World) (g cap : Nat), W8.ownsRow (w.heap.size + 2) 26 1 (.slice (some ⟨g, 0, none⟩) (i + 1) cap) (i + 1) (CL ++ [vx]) → (W6.alloc ob).grownBy W8 v.ownBlock → (v.ownBlock = some g ∨ g = W6.heap.size + 1) →
        (W8.cell? ⟨w.heap.size + 1, 0, none⟩ = some v ∧ ∀ j, W8.frozen? ⟨w.heap.size + 1, j, none⟩ = false) ∧ BI w F (i + 1) (.slice (some ⟨g, 0, none⟩) (i + 1) cap) (W8.setCell ⟨w.heap.size + 1, 0, none⟩ (.slice (some ⟨g, 0, none⟩) (i + 1) cap)) := by
  obtain ⟨⟨V, G, hb⟩, r, d, kw, z⟩ := id h
  obtain ⟨⟨V6, G6, hb6⟩, r6, d6, kw6, z6⟩ := h.keep k6
  refine ⟨cel 1 F V i, ⟨cell_of d6 rfl, fun ob => (kb_alloc 0 W6 ob).cell (cell_of d6 rfl), z6, (hb.keep k6.size (fun q _ h2 => k6.block q (Nat.zero_le _) h2)).ro⟩, fun ob W8 g cap h8 g8 ha => ?_⟩
  have st := hb.step (by omega) k6.size (fun q _ h2 => k6.block q (Nat.zero_le _) h2) ox lx (ob := ob) h8 g8 ha
  have lo : ∀ q, q < w.heap.size + 2 → some q ≠ v.ownBlock := fun q hq e => by have := (hb.ro.lt q e.symm).1; omega
  have z8 : W6.heap.size + 1 ≤ W8.heap.size := by have := g8.size; rw [World.size_alloc] at this; exact this
  have b8 : ∀ q, q < w.heap.size + 2 → W8.heap[q]? = W6.heap[q]? := fun q hq => (g8.block q (by rw [World.size_alloc]; omega) (lo q hq)).trans ((kb_alloc 0 W6 ob).block q (Nat.zero_le _) (by omega))
  have d8 := (b8 (w.heap.size + 1) (by omega)).trans d6
  have r8 := (b8 w.heap.size (by omega)).trans r6
  refine ⟨⟨cell_of d8 rfl, fun j => frozen_of d8⟩, ⟨_, _, st.keep (by simp) (fun q h1 h2 => Below.heap_setCell _ _ _ _ (show q ≠ w.heap.size + 1 by omega))⟩, ?_, ?_, ?_, ?_⟩
  · rw [Below.heap_setCell _ _ _ _ (show w.heap.size ≠ w.heap.size + 1 by omega)]
    exact r8
  · exact set_known _ d8
  · have kk : Kb 0 w W8 := ⟨by rw [g8.os]; exact kw6.os, by rw [g8.output]; exact kw6.output, by have := kw6.size; omega, fun q h1 h2 => (b8 q (by omega)).trans (kw6.block q h1 h2)⟩
    exact kk.setCell _ (.inr (by show _ ≤ w.heap.size + 1; omega)) _
  · rw [World.size_setCell]
    omega
/-- the disk in the end -/
theorem BI.fin {w : World} {F Q : Nat → Ed} {n : Nat} {v : Value} {wr : World} (h : BI w F n v wr) (W : World) (hW : W = (wr.setCell ⟨w.heap.size, 0, none⟩ v).setCell ⟨w.heap.size, 1, none⟩ (.slice none 0 0)) :
    OwD w.heap.size W.heap.size W v (.slice none 0 0) ⟨n, F, 0, Q⟩ ∧ Kb 0 w W ∧ W.cell? ⟨w.heap.size, 0, none⟩ = some v ∧ W.cell? ⟨w.heap.size, 1, none⟩ = some (.slice none 0 0) := by
  obtain ⟨⟨V, G, hb⟩, r, d, kw, z⟩ := h
  have zW : W.heap.size = wr.heap.size := by rw [hW]; simp
  have bW : ∀ q, q ≠ w.heap.size → W.heap[q]? = wr.heap[q]? := fun q hq => by
    rw [hW, Below.heap_setCell _ _ _ _ (show q ≠ w.heap.size from hq), Below.heap_setCell _ _ _ _ (show q ≠ w.heap.size from hq)]
  obtain ⟨g, o⟩ := (hb.keep (by omega) (fun q h1 h2 => bW q (by omega))).owE (.inl rfl)
  have rW : W.heap[w.heap.size]? = some (.cells #[v, .slice none 0 0] 30 (0, 0)) := by
    rw [hW]
    exact set_known _ (set_known _ r)
  refine ⟨⟨W.heap.size, g, V, G, 0, fun _ => .slice none 0 0, fun _ => 0, o.wide (by omega) (Nat.le_refl _), ⟨⟨none, 0, rfl, fun q => absurd q (by show ¬ 0 < 0; omega)⟩, fun q => absurd q (by show ¬ 0 < 0; omega), fun j hj => absurd hj (by show ¬ j < 0; omega), fun q => absurd q (by show ¬ 0 < 0; omega), fun i hi => absurd hi (by show ¬ i < 0; omega), fun i hi => absurd hi (by show ¬ i < 0; omega), fun i j hi => absurd hi (by show ¬ i < 0; omega)⟩, by omega, Nat.le_refl _⟩, ?_, cell_of rW rfl, cell_of rW rfl⟩
  rw [hW]
  exact (kw.setCell _ (.inr (Nat.le_refl _)) _).setCell _ (.inr (Nat.le_refl _)) _
/-- a block of zeros -/
def zE : Ed := ⟨false, 0, 64, fun _ => 0⟩
def blD : Dd := ⟨258, fun _ => zE, 0, fun _ => zE⟩
def M64 : Array Value := madeCells (.int .u8 0 : Value).cells (64 * 1)
theorem own_made (W W6 : World) (h : W6 = W.alloc (.cells M64 5)) : OwnR W6 (.slice (some ⟨W.heap.size, 0, none⟩) 64 64) W.heap.size zE.c (ub zE.A) := by
  refine ⟨⟨_, _, rfl, fun _ => ⟨rfl, Nat.le_refl _⟩⟩, fun i hi => ?_, fun _ j => ?_⟩
  · rw [h]
    exact made_cell W _ 5 64 rfl i hi
  · rw [h]
    exact frozen_of (alloc_new _ _ _)
end Go.Proofs.Ytaggciimacanbaa.Fo

namespace Go.Proofs.Ytaggciimacanbaa.Fo
open Go.ChangeShapes Go.WideShapes Go.ChangeAt Go.RowKit
set_option linter.unusedVariables false
set_option maxRecDepth 100000
theorem infoBB : ∃ i1, Try.prog.info? 26 = some i1 ∧ i1.zero = some (.slice none 0 0) ∧ i1.size = 1 ∧ i1.bytes = 24 := ⟨Try.t26, by kernel_rfl, by kernel_rfl, by kernel_rfl, by kernel_rfl⟩
end Go.Proofs.Ytaggciimacanbaa.Fo
