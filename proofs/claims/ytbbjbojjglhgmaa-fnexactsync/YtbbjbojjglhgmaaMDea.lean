import Derived.Test.YtbbjbojjglhgmaaMDcc
import Derived.Test.YtbbjbojjglhgmaaMDdf
namespace Go.Proofs.Ytbbjbojjglhgmaa.Fo
open Go.ChangeShapes Go.WideShapes Go.ChangeAt Go.RowKit
set_option linter.unusedVariables false
set_option maxRecDepth 100000
set_option linter.unusedSimpArgs false
/-- a disk that is being filled: all n blocks stand (in blocks before M), and i writes -/
def BI2 (w : World) (F : Nat → Ed) (n : Nat) (v : Value) (M : Nat) (Q : Nat → Ed) (i : Nat) (v' : Value) (wr : World) : Prop := (∃ g V G, OwE 1 (w.heap.size + 2) M wr v n F g V G) ∧ (∃ V G, BE 2 M 118 wr v' i Q V G) ∧ wr.heap[w.heap.size]? = some (.cells #[.slice none 0 0, .slice none 0 0] 40 (0, 0)) ∧ wr.heap[w.heap.size + 1]? = some (.cells #[v, v'] 40 (0, 0)) ∧ Kb 0 w wr ∧ w.heap.size + 2 ≤ M ∧ M ≤ wr.heap.size
theorem BI.two {w : World} {F : Nat → Ed} {n : Nat} {v : Value} {wr : World} (h : BI w F n v wr) (Q : Nat → Ed) : BI2 w F n v wr.heap.size Q 0 (.slice none 0 0) wr := by
  obtain ⟨⟨V, G, hb⟩, r, d, kw, z⟩ := h
  obtain ⟨g, o⟩ := hb.owE (.inl rfl)
  exact ⟨⟨g, V, G, o⟩, ⟨fun _ => .slice none 0 0, fun _ => 0, BE.nil _ _ _ _ _ _ _⟩, r, d, kw, z, Nat.le_refl _⟩
theorem BI2.keep {w : World} {F : Nat → Ed} {n : Nat} {v : Value} {M : Nat} {Q : Nat → Ed} {i : Nat} {v' : Value} {wr W : World} (h : BI2 w F n v M Q i v' wr) (k : Kb 0 wr W) : BI2 w F n v M Q i v' W := by
  obtain ⟨⟨g, V, G, o⟩, ⟨V', G', hb⟩, r, d, kw, z, zM⟩ := h
  have := k.size
  exact ⟨⟨g, V, G, o.block (fun q _ h2 => k.block q (Nat.zero_le _) (by omega))⟩, ⟨V', G', hb.keep k.size (fun q _ h2 => k.block q (Nat.zero_le _) h2)⟩, (k.block _ (Nat.zero_le _) (by omega)).trans r, (k.block _ (Nat.zero_le _) (by omega)).trans d, kw.trans k, z, by omega⟩
theorem BI2.shape {w : World} {F : Nat → Ed} {n : Nat} {v : Value} {M : Nat} {Q : Nat → Ed} {i : Nat} {v' : Value} {wr : World} (h : BI2 w F n v M Q i v' wr) : (∃ (ad : Option Addr) (cap : Nat), v = .slice ad n cap) ∧ ∃ (ad : Option Addr) (cap : Nat), v' = .slice ad i cap := by
  obtain ⟨⟨g, V, G, o⟩, ⟨V', G', hb⟩, _⟩ := h
  obtain ⟨p, c, e, _⟩ := o.sl
  exact ⟨⟨p, c, e⟩, own_shape hb.ro⟩
theorem BI2.step {w : World} {F : Nat → Ed} {n : Nat} {v : Value} {M : Nat} {Q : Nat → Ed} {i : Nat} {v' : Value} {wr W6 : World} {vx : Value} {gx : Nat} (h : BI2 w F n v M Q i v' wr) (k6 : Kb 0 wr W6) (ox : OwnR W6 vx gx (Q i).c (ub (Q i).A)) (lx : 0 < (Q i).c → wr.heap.size ≤ gx ∧ gx < W6.heap.size) :
    ∃ CL, (W6.cell? ⟨w.heap.size + 1, 1, none⟩ = some v' ∧ (∀ ob, (W6.alloc ob).cell? ⟨w.heap.size + 1, 1, none⟩ = some v') ∧ M ≤ W6.heap.size ∧ W6.ownsRow M 118 2 v' i CL) ∧
      ∀ (ob : Obj) (W8 : World) (g cap : Nat), W8.ownsRow M 118 2 (.slice (some ⟨g, 0, none⟩) (i + 1) cap) (i + 1) (CL ++ [.int .i64 (Q i).b, vx]) → (W6.alloc ob).grownBy W8 v'.ownBlock → (v'.ownBlock = some g ∨ g = W6.heap.size + 1) →
        (W8.cell? ⟨w.heap.size + 1, 1, none⟩ = some v' ∧ ∀ j, W8.frozen? ⟨w.heap.size + 1, j, none⟩ = false) ∧ BI2 w F n v M Q (i + 1) (.slice (some ⟨g, 0, none⟩) (i + 1) cap) (W8.setCell ⟨w.heap.size + 1, 1, none⟩ (.slice (some ⟨g, 0, none⟩) (i + 1) cap)) := by
  obtain ⟨_, ⟨V, G, hb⟩, _, _, _, z, zM⟩ := id h
  obtain ⟨⟨g1, V1, G1, o6⟩, _, r6, d6, kw6, _, zM6⟩ := h.keep k6
  refine ⟨cel 2 Q V i, ⟨cell_of d6 rfl, fun ob => (kb_alloc 0 W6 ob).cell (cell_of d6 rfl), zM6, (hb.keep k6.size (fun q _ h2 => k6.block q (Nat.zero_le _) h2)).ro⟩, fun ob W8 g cap h8 g8 ha => ?_⟩
  have st := hb.step (by omega) k6.size (fun q _ h2 => k6.block q (Nat.zero_le _) h2) ox lx (ob := ob) h8 g8 ha
  have lo : ∀ q, q < M → some q ≠ v'.ownBlock := fun q hq e => by have := (hb.ro.lt q e.symm).1; omega
  have z8 : W6.heap.size + 1 ≤ W8.heap.size := by have := g8.size; rw [World.size_alloc] at this; exact this
  have b8 : ∀ q, q < M → W8.heap[q]? = W6.heap[q]? := fun q hq => (g8.block q (by rw [World.size_alloc]; omega) (lo q hq)).trans ((kb_alloc 0 W6 ob).block q (Nat.zero_le _) (by omega))
  have d8 := (b8 (w.heap.size + 1) (by omega)).trans d6
  have r8 := (b8 w.heap.size (by omega)).trans r6
  refine ⟨⟨cell_of d8 rfl, fun j => frozen_of d8⟩, ⟨g1, V1, G1, o6.block (fun q h1 h2 => (Below.heap_setCell _ _ _ _ (show q ≠ w.heap.size + 1 by omega)).trans (b8 q h2))⟩, ⟨_, _, st.keep (by simp) (fun q h1 h2 => Below.heap_setCell _ _ _ _ (show q ≠ w.heap.size + 1 by omega))⟩, ?_, ?_, ?_, z, ?_⟩
  · rw [Below.heap_setCell _ _ _ _ (show w.heap.size ≠ w.heap.size + 1 by omega)]
    exact r8
  · exact set_known _ d8
  · have kk : Kb 0 w W8 := ⟨by rw [g8.os]; exact kw6.os, by rw [g8.output]; exact kw6.output, by have := kw6.size; omega, fun q h1 h2 => (b8 q (by omega)).trans (kw6.block q h1 h2)⟩
    exact kk.setCell _ (.inr (by show _ ≤ w.heap.size + 1; omega)) _
  · rw [World.size_setCell]
    omega
theorem BI2.fin {w : World} {F : Nat → Ed} {n : Nat} {v : Value} {M : Nat} {Q : Nat → Ed} {m : Nat} {v' : Value} {wr : World} (h : BI2 w F n v M Q m v' wr) (W : World) (hW : W = (wr.setCell ⟨w.heap.size, 0, none⟩ v).setCell ⟨w.heap.size, 1, none⟩ v') :
    OwD w.heap.size W.heap.size W v v' ⟨n, F, m, Q⟩ ∧ Kb 0 w W ∧ W.cell? ⟨w.heap.size, 0, none⟩ = some v ∧ W.cell? ⟨w.heap.size, 1, none⟩ = some v' := by
  obtain ⟨⟨g1, V1, G1, o1⟩, ⟨V, G, hb⟩, r, d, kw, z, zM⟩ := h
  have zW : W.heap.size = wr.heap.size := by rw [hW]; simp
  have bW : ∀ q, q ≠ w.heap.size → W.heap[q]? = wr.heap[q]? := fun q hq => by
    rw [hW, Below.heap_setCell _ _ _ _ (show q ≠ w.heap.size from hq), Below.heap_setCell _ _ _ _ (show q ≠ w.heap.size from hq)]
  obtain ⟨g, o⟩ := (hb.keep (by omega) (fun q h1 h2 => bW q (by omega))).owE (.inr (.inl rfl))
  have rW : W.heap[w.heap.size]? = some (.cells #[v, v'] 40 (0, 0)) := by
    rw [hW]
    exact set_known _ (set_known _ r)
  refine ⟨⟨M, g1, V1, G1, g, V, G, (o1.block (fun q h1 h2 => bW q (by omega))).wide (by omega) (Nat.le_refl _), o, by omega, by omega⟩, ?_, cell_of rW rfl, cell_of rW rfl⟩
  rw [hW]
  exact (kw.setCell _ (.inr (Nat.le_refl _)) _).setCell _ (.inr (Nat.le_refl _)) _
theorem infoWr : ∃ i1, Try.prog.info? 118 = some i1 ∧ i1.zero = some (.agg #[.int .i64 0, .slice none 0 0]) ∧ i1.size = 2 ∧ i1.bytes = 32 := ⟨Try.t118, by kernel_rfl, by kernel_rfl, by kernel_rfl, by kernel_rfl⟩
end Go.Proofs.Ytbbjbojjglhgmaa.Fo
