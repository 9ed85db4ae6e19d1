import Derived.Test.YtaggciimacanbaaMDkg
import Derived.Test.YtaggciimacanbaaMDki
import Derived.Test.YtaggciimacanbaaMDkl
namespace Go.Proofs.Ytaggciimacanbaa.Fo
open Go.ChangeShapes Go.WideShapes Go.ChangeAt Go.RowKit
set_option linter.unusedVariables false
set_option maxRecDepth 100000
set_option linter.unusedSimpArgs false

theorem cel_ext9 (K : Nat) {F F' : Nat → Ed} (V : Nat → Value) : ∀ n, (∀ j, j < n → F j = F' j) → cel K F V n = cel K F' V n
  | 0, _ => rfl
  | n + 1, h => by rw [cel, cel, cel_ext9 K V n (fun j hj => h j (by omega)), h n (by omega)]
theorem BE.ext9 {K B : Nat} {ty : TypeId} {W : World} {v : Value} {n : Nat} {F F' : Nat → Ed} {V : Nat → Value} {G : Nat → Nat} (h : BE K B ty W v n F V G) (e : ∀ j, j < n → F j = F' j) : BE K B ty W v n F' V G :=
  ⟨by rw [← cel_ext9 K V n e]; exact h.ro, fun i hi => by rw [← e i hi]; exact h.ow i hi, fun i hi => by rw [← e i hi]; exact h.lo i hi, fun i j hi hj => by rw [← e i hi, ← e j hj]; exact h.di i j hi hj⟩
theorem BE.mono9 {K B B' : Nat} {ty : TypeId} {W : World} {v : Value} {n : Nat} {F : Nat → Ed} {V : Nat → Value} {G : Nat → Nat} (h : BE K B ty W v n F V G) (hb : B' ≤ B) : BE K B' ty W v n F V G :=
  ⟨⟨h.ro.1, h.ro.2.imp id fun ⟨g, cap, cur, h1, h2, h3⟩ => ⟨g, cap, cur, h1, Nat.le_trans hb h2, h3⟩⟩, h.ow, fun i hi hc => ⟨Nat.le_trans hb (h.lo i hi hc).1, (h.lo i hi hc).2⟩, h.di⟩
theorem cells_of_cell {W : World} {a : Addr} {v : Value} (h : W.cell? a = some v) : ∃ o, W.heap[a.block]? = some o ∧ o.isCells = true := by
  unfold World.cell? at h
  cases e : W.heap[a.block]? with
  | none => rw [e] at h; simp at h
  | some o =>
    rw [e] at h
    cases o with
    | cells c t z => exact ⟨_, rfl, rfl⟩
    | _ => simp at h
theorem BE.keepC {K B : Nat} {ty : TypeId} {W W' : World} {v : Value} {n : Nat} {F : Nat → Ed} {V : Nat → Value} {G : Nat → Nat} (h : BE K B ty W v n F V G) (hs : W.heap.size ≤ W'.heap.size) (k : ∀ (q : Nat) (o : Obj), W.heap[q]? = some o → o.isCells = true → W'.heap[q]? = W.heap[q]?) : BE K B ty W' v n F V G := by
  refine ⟨⟨h.ro.1, ?_⟩, fun i hi => (h.ow i hi).kb (fun hc => ?_), fun i hi hc => ?_, h.di⟩
  · rcases h.ro.2 with h1 | ⟨g, cap, cur, h1, h2, h3, h4⟩
    · exact .inl h1
    · exact .inr ⟨g, cap, cur, h1, h2, (k g _ h3 rfl).trans h3, h4⟩
  · obtain ⟨o, q1, q2⟩ := cells_of_cell ((h.ow i hi).cell 0 (by omega))
    exact k _ o q1 q2
  · obtain ⟨q1, q2, q3⟩ := h.lo i hi hc
    exact ⟨q1, by omega, q3⟩
/-- between two rounds over the pieces -/
def OI (w4 : World) (A : Nat → Int) (n sl : Nat) (sI : Int) (f : Nat) (xg : Int) (pre : List {j : Nat // j < opn n}) (W : World) : Prop :=
  ∃ F v V G, W.heap[w4.heap.size + 1]? = some (.cells #[v] 56 (0, 0)) ∧ BE 3 (w4.heap.size + 4) 96 W v pre.length F V G ∧ W.heap[w4.heap.size]? = some (.cells #[.int .i64 sI] 3 (0, 0)) ∧ Kb 0 w4 W ∧ w4.heap.size + 4 ≤ W.heap.size ∧ (Orc pre → ∀ i, i < pre.length → F i = opF A n sl f xg i)
theorem own_oi {w4 : World} {A : Nat → Int} {n sl : Nat} {sI : Int} {f : Nat} {xg : Int} : OwnFrom (w4.heap.size + 4) (OI w4 A n sl sI f xg) := by
  rintro pre W W' row ⟨F, v, V, G, h1, h2, h3, h4, h5, h6⟩ hg hr
  have kk : ∀ (q : Nat) (o : Obj), W.heap[q]? = some o → o.isCells = true → W'.heap[q]? = W.heap[q]? := fun q o ho hc => hg.block q (Array.getElem?_eq_some_iff.1 ho).1 (fun e => by
    obtain ⟨_, o', ho', hc'⟩ := hr q e.symm
    rw [ho] at ho'
    cases ho'
    rw [hc] at hc'
    cases hc')
  have kb : ∀ q, q < w4.heap.size + 4 → W'.heap[q]? = W.heap[q]? := fun q hq => hg.block q (by omega) (fun e => by have := (hr q e.symm).1; omega)
  exact ⟨F, v, V, G, (kb _ (by omega)).trans h1, h2.keepC hg.size kk, (kb _ (by omega)).trans h3, ⟨hg.os.trans h4.os, hg.output.trans h4.output, Nat.le_trans h4.size hg.size, fun q a b => (kb q (by omega)).trans (h4.block q a b)⟩, Nat.le_trans h5 hg.size, h6⟩
theorem Kp3.put {n B1 B2 : Nat} (W : World) (l : Nat) (o' : Obj) (h : n ≤ l) (h1 : l ≠ B1) (h2 : l ≠ B2) : Kp3 n B1 B2 W (W.putObj l o') := fun k hk => World.putObj_heap_other (fun e => by omega)
theorem OI.next {w4 W W5 W6 : World} {A : Nat → Int} {n sl : Nat} {sI : Int} {f : Nat} {xg : Int} {pre : List {j : Nat // j < opn n}} {x : {j : Nat // j < opn n}} {F : Nat → Ed} {v : Value} {V : Nat → Value} {G : Nat → Nat} {Ax : Nat → Int}
    (h1 : W.heap[w4.heap.size + 1]? = some (.cells #[v] 56 (0, 0))) (h2 : BE 3 (w4.heap.size + 4) 96 W v pre.length F V G) (h3 : W.heap[w4.heap.size]? = some (.cells #[.int .i64 sI] 3 (0, 0))) (h4 : Kb 0 w4 W) (h5 : w4.heap.size + 4 ≤ W.heap.size) (h6 : Orc pre → ∀ i, i < pre.length → F i = opF A n sl f xg i)
    (k5 : Kb 0 W W5) (e6 : W6 = W5.alloc (.cells (pgl Ax).toArray 92)) (hx : Orc (pre ++ [x]) → (⟨false, ((f + pre.length : Nat) : Int), 64, Ax⟩ : Ed) = opF A n sl f xg pre.length) :
    ∃ CL, (W6.cell? ⟨w4.heap.size + 1, 0, none⟩ = some v ∧ W6.ownsRow (w4.heap.size + 4) 96 3 v pre.length CL ∧ w4.heap.size + 4 ≤ W6.heap.size ∧ (∀ ob : Obj, (W6.alloc ob).cell? ⟨w4.heap.size + 1, 0, none⟩ = some v)) ∧
      ∀ (ob : Obj) (W8 : World) (g cap : Nat), W8.ownsRow (w4.heap.size + 4) 96 3 (.slice (some ⟨g, 0, none⟩) (pre.length + 1) cap) (pre.length + 1) (CL ++ [.bool false, .int .i64 ((f + pre.length : Nat) : Int), .slice (some ⟨W5.heap.size, 0, none⟩) 64 64]) → (W6.alloc ob).grownBy W8 v.ownBlock → (v.ownBlock = some g ∨ g = W6.heap.size + 1) →
        (W8.cell? ⟨w4.heap.size + 1, 0, none⟩ = some v ∧ (∀ j, W8.frozen? ⟨w4.heap.size + 1, j, none⟩ = false)) ∧
        ∀ W9 : World, W9 = W8.setCell ⟨w4.heap.size + 1, 0, none⟩ (.slice (some ⟨g, 0, none⟩) (pre.length + 1) cap) → KeepsOthers W W9 ∧ Kp3 w4.heap.size (w4.heap.size + 1 + 1) (w4.heap.size + 1 + 1 + 1) W W9 ∧ OI w4 A n sl sI f xg (pre ++ [x]) W9 := by
  have k6 : Kb 0 W W6 := k5.trans (by rw [e6]; exact kb_alloc _ _ _)
  have z5 := k5.size
  have z6 : W6.heap.size = W5.heap.size + 1 := by rw [e6, World.size_alloc]
  obtain ⟨F2, hF2⟩ : ∃ F2 : Nat → Ed, F2 = fun i => if i < pre.length then F i else ⟨false, ((f + pre.length : Nat) : Int), 64, Ax⟩ := ⟨_, rfl⟩
  have hb2 : BE 3 (w4.heap.size + 4) 96 W v pre.length F2 V G := h2.ext9 (fun j hj => by rw [hF2]; exact (if_pos hj).symm)
  have hFn : F2 pre.length = ⟨false, ((f + pre.length : Nat) : Int), 64, Ax⟩ := by rw [hF2]; exact if_neg (by omega)
  have b1 := (k6.block _ (Nat.zero_le _) (Array.getElem?_eq_some_iff.1 h1).1).trans h1
  refine ⟨cel 3 F2 V pre.length, ⟨cell_of b1 rfl, own_keep hb2.ro (fun g hg => k6.block g (Nat.zero_le _) (hb2.ro.lt g hg).2), by omega, fun ob => (kb_alloc 0 W6 ob).cell (cell_of b1 rfl)⟩, fun ob W8 g cap h8 g8 ha => ?_⟩
  have z8 : W6.heap.size + 1 ≤ W8.heap.size := by have := g8.size; rw [World.size_alloc] at this; exact this
  have b8 : ∀ q, q < W.heap.size → some q ≠ v.ownBlock → W8.heap[q]? = W.heap[q]? := fun q hq hn => ((g8.block q (by rw [World.size_alloc]; omega) hn).trans ((kb_alloc 0 W6 ob).block q (Nat.zero_le _) (by omega))).trans (k6.block q (Nat.zero_le _) hq)
  have no : ∀ q, q < w4.heap.size + 4 → some q ≠ v.ownBlock := fun q hq e => by have := (h2.ro.lt q e.symm).1; omega
  have c8 := (b8 _ (by omega) (no (w4.heap.size + 1) (by omega))).trans h1
  refine ⟨⟨cell_of c8 rfl, fun j => frozen_of c8⟩, fun W9 e9 => ?_⟩
  have s9 : ∀ q, q ≠ w4.heap.size + 1 → W9.heap[q]? = W8.heap[q]? := fun q hq => by rw [e9]; exact Below.heap_setCell _ _ _ _ hq
  have z9 : W9.heap.size = W8.heap.size := by rw [e9]; simp
  have hbe := BE.step hb2 h5 k6.size (fun q _ hq => k6.block q (Nat.zero_le _) hq) (vx := .slice (some ⟨W5.heap.size, 0, none⟩) 64 64) (gx := W5.heap.size) (by rw [hFn]; exact own_page e6) (fun _ => ⟨z5, by omega⟩) (by rw [hFn]; exact h8) g8 ha
  refine ⟨⟨by omega, fun q o hq ho => ?_⟩, fun q hq => ?_, ⟨F2, .slice (some ⟨g, 0, none⟩) (pre.length + 1) cap, fun q => if q = pre.length then .slice (some ⟨W5.heap.size, 0, none⟩) 64 64 else V q, fun q => if q = pre.length then W5.heap.size else G q, ?_, ?_, ?_, ?_, by omega, ?_⟩⟩
  · have hn1 : q ≠ w4.heap.size + 1 := fun e => by rw [e, h1] at hq; cases hq; cases ho
    have hn2 : some q ≠ v.ownBlock := fun e => by
      rcases h2.ro.2 with ⟨e1, _⟩ | ⟨g', cap', cur, e1, _, e3, _⟩
      · rw [e1] at e; cases e
      · rw [e1] at e
        have e' : q = g' := by simpa [Value.ownBlock] using e
        rw [e', e3] at hq
        cases hq
        cases ho
    rw [s9 q hn1, b8 q (Array.getElem?_eq_some_iff.1 hq).1 hn2]
    exact hq
  · rw [s9 q (by omega)]
    exact b8 q (by omega) (no q (by omega))
  · rw [e9]; exact set_known _ c8
  · rw [List.length_append, List.length_singleton]
    exact hbe.keep (by omega) (fun q hq _ => s9 q (by omega))
  · rw [s9 _ (by omega)]
    exact (b8 _ (by omega) (no _ (by omega))).trans h3
  · have ks : Kb 0 W W6 := k6
    refine ⟨?_, ?_, by have := h4.size; omega, fun q _ hq => ?_⟩
    · rw [e9]; exact (g8.os.trans k6.os).trans h4.os
    · rw [e9]; exact (g8.output.trans k6.output).trans h4.output
    · rw [s9 q (by omega)]
      exact (b8 q (by have := h4.size; omega) (no q (by omega))).trans (h4.block q (Nat.zero_le _) hq)
  · intro ho i hi
    rw [List.length_append, List.length_singleton] at hi
    by_cases e : i < pre.length
    · rw [show F2 i = F i from by rw [hF2]; exact if_pos e]
      exact h6 ho.app.1 i e
    · obtain rfl : i = pre.length := by omega
      rw [hFn]
      exact hx ho
end Go.Proofs.Ytaggciimacanbaa.Fo

namespace Go.Proofs.Ytaggciimacanbaa.Fo
open Go.ChangeShapes Go.WideShapes Go.ChangeAt Go.RowKit
set_option linter.unusedVariables false
set_option maxRecDepth 100000
set_option linter.unusedSimpArgs false

theorem opn_le {n : Nat} (h : n ≤ 8192) : opn n ≤ 128 := by unfold opn; omega
theorem pcn_le (n j : Nat) : pcn n j ≤ 64 := by unfold pcn; omega
theorem pad_pcA {A : Nat → Int} {n j : Nat} : pgl (pad (pcn n j) (fun i => A (j * 64 + i))) = pgl (pcA A n j) := pgl_ext (fun i hi => by
  unfold pad pcA pcn
  by_cases h : j * 64 + i < n
  · rw [if_pos h, if_pos (by omega)]
  · rw [if_neg h, if_neg (by omega)])
theorem add_add9 (a : Addr) (i j : Nat) : (a.add i).add j = a.add (i + j) := by
  unfold Addr.add
  by_cases h1 : i = 0 <;> by_cases h2 : j = 0 <;> simp [h1, h2, Nat.add_assoc]
theorem row_pcv {W : World} {a : Addr} {A : Nat → Int} {n j : Nat} (h : ∀ i, i < n → W.cell? (a.add i) = some (.int .u8 (A i))) : RowV W (pcv a n j) (pcn n j) (fun i => .int .u8 (A (j * 64 + i))) := by
  refine ⟨_, _, rfl, fun _ => ⟨_, rfl, Nat.le_refl _, fun i hi => ?_⟩⟩
  have := h (j * 64 + i) (by unfold pcn at hi; omega)
  rw [add_add9]
  exact this
theorem be_slice {K B : Nat} {ty : TypeId} {W : World} {v : Value} {n : Nat} {F : Nat → Ed} {V : Nat → Value} {G : Nat → Nat} (h : BE K B ty W v n F V G) : ∃ pv cv, v = .slice pv n cv := by
  rcases h.ro.2 with ⟨e, e2⟩ | ⟨g, cap, cur, e, _⟩
  · exact ⟨none, 0, by rw [e, e2]⟩
  · exact ⟨_, _, e⟩
theorem lets_no {Kp : World → World → Prop} {α : Type} {I : List α → World → Prop} {Ix : Code → List α → World → Prop} {xs : List α} {W : World} (id : Nat) : ¬ LetsOut (Exit.inBlock id (ownPostK Kp I Ix xs W)) := fun ⟨_, _, h⟩ => h
end Go.Proofs.Ytaggciimacanbaa.Fo
