import Derived.Test.YtgocahalfanpjaaDoorCnk
namespace Go.Proofs.YtgocahalfanpjaaDoor.Fo
open Go.ChangeShapes Go.WideShapes Go.ChangeAt Go.RowKit Go.Shelf
set_option linter.unusedVariables false
set_option maxRecDepth 100000
attribute [local go_sem] Oper.semAt_some

theorem kf_trans {n : Nat} {a b c : World} (h : KeepsFrom n a b) (k : KeepsFrom n b c) : KeepsFrom n a c := ⟨Nat.le_trans h.size k.size, fun q o h1 hk ho => k.same q o h1 (h.same q o h1 hk ho) ho⟩
theorem kf_kb {n : Nat} {a b : World} (h : Kb 0 a b) : KeepsFrom n a b := ⟨h.size, fun q o _ hk _ => (h.block q (Nat.zero_le _) (Array.getElem?_eq_some_iff.1 hk).1).trans hk⟩
theorem kf_set {n b j : Nat} {W : World} {c : Array Value} {t : TypeId} {f : Nat × Nat} (hb : W.heap[b]? = some (.cells c t f)) (v : Value) : KeepsFrom n W (W.setCell ⟨b, j, none⟩ v) :=
  ⟨by simp, fun q o _ hk ho => (Below.heap_setCell W _ v q (fun e => by
    have e : q = b := e
    subst e
    rw [hb] at hk
    injection hk with hk
    subst hk
    cases ho)).trans hk⟩
theorem bx_of {a b c : Nat} {W W' : World} (h : ∀ k, k = a ∨ k = b ∨ k = c → W'.heap[k]? = W.heap[k]?) : Bx3 a b c W W' := ⟨h a (.inl rfl), h b (.inr (.inl rfl)), h c (.inr (.inr rfl))⟩
theorem lv_pre {w : World} {B : Nat} {R : List (List UInt8)} {l : List UInt8} {pre : List (List UInt8)} {x : List UInt8} {W : World} {W7 W' : World} {e : Exit} {a : Act} (hs : w.heap.size + 5 ≤ W.heap.size) (k : Kb 0 W W7) (h : lvEnd (w.heap.size + 5) (Bx3 (w.heap.size + 2 + 1) (w.heap.size + 2) (w.heap.size + 2 + 1 + 1)) (WI w B R l) (WX w B R l) (pre ++ [x]) W7 e a W') : lvEnd (w.heap.size + 5) (Bx3 (w.heap.size + 2 + 1) (w.heap.size + 2) (w.heap.size + 2 + 1 + 1)) (WI w B R l) (WX w B R l) (pre ++ [x]) W e a W' := by
  have b : Bx3 (w.heap.size + 2 + 1) (w.heap.size + 2) (w.heap.size + 2 + 1 + 1) W W7 := bx_of (fun q hq => k.block q (Nat.zero_le _) (by omega))
  cases e with
  | normal => exact ⟨kf_trans (kf_kb k) h.1, ⟨h.2.1.1.trans b.1, h.2.1.2.1.trans b.2.1, h.2.1.2.2.trans b.2.2⟩, h.2.2⟩
  | ret => exact ⟨kf_trans (kf_kb k) h.1, h.2⟩
  | exit id => exact h.elim
  | goto t => exact h.elim
  | panic ch => exact h.elim
  | outgrown => exact h.elim
theorem wi_kb {w : World} {B : Nat} {R : List (List UInt8)} {l : List UInt8} {pre : List (List UInt8)} {x : List UInt8} {W : World} {W7 : World} (hB : B ≤ w.heap.size) (h : WI w B R l pre W) (k : Kb 0 W W7) : WI w B R l pre W7 := h.blk hB ⟨k.os, k.output, k.size, fun q hq _ _ => k.block q (Nat.zero_le _) hq⟩
/-- a round that returns -/
theorem wi_ret {w : World} {B : Nat} {R : List (List UInt8)} {l : List UInt8} {pre : List (List UInt8)} {x : List UInt8} {W : World} (hB : B ≤ w.heap.size) (h : WI w B R l pre W) {c : Int} (h0 : c ≠ 0) (hc : (wst R (spB l)).1 = c) (a : Act) : lvEnd (w.heap.size + 5) (Bx3 (w.heap.size + 2 + 1) (w.heap.size + 2) (w.heap.size + 2 + 1 + 1)) (WI w B R l) (WX w B R l) (pre ++ [x]) W .ret a ((W.setCell ⟨w.heap.size + 1, 0, none⟩ (.int .i64 c)).setCell ⟨w.heap.size + 1, 1, none⟩ (.string ⟨#[]⟩)) := by
  have hs := h.size
  have b1 : (W.setCell ⟨w.heap.size + 1, 0, none⟩ (.int .i64 c)).heap[w.heap.size + 1]? = some (.cells #[.int .i64 c, .string ⟨#[]⟩] 23 (0, 0)) := by
    simp [World.setCell, Array.getElem?_modify, h.res]
  have b2 : ((W.setCell ⟨w.heap.size + 1, 0, none⟩ (.int .i64 c)).setCell ⟨w.heap.size + 1, 1, none⟩ (.string ⟨#[]⟩)).heap[w.heap.size + 1]? = some (.cells #[.int .i64 c, .string ⟨#[]⟩] 23 (0, 0)) := by
    rw [World.setCell, Array.getElem?_modify, if_pos rfl, b1]; rfl
  refine ⟨kf_trans (kf_set h.res _) (kf_set b1 _), ⟨h.kb.os, h.kb.output, by simpa using h.kb.size, fun i hi => ?_⟩, by simpa using hs, by rw [hc]; exact h0, by rw [hc]; exact b2⟩
  rw [Below.heap_setCell _ _ _ _ (fun e : i = w.heap.size + 1 => by omega), Below.heap_setCell _ _ _ _ (fun e : i = w.heap.size + 1 => by omega)]
  exact h.kb.block i hi
/-- a round that goes on with another row -/
theorem wi_step {w : World} {B : Nat} {R : List (List UInt8)} {l : List UInt8} {pre : List (List UInt8)} {x : List UInt8} {W : World} (hB : B ≤ w.heap.size) (h : WI w B R l pre W) {v v' : Value} {row row' : List (List UInt8)} {W8 : World} (h3 : W.heap[w.heap.size]? = some (.cells #[v] 27 (0, 0))) (h4 : W.ownsRow B 9 1 v row.length (stv row)) (h5 : ∀ g, v.ownBlock = some g → g < w.heap.size ∨ w.heap.size + 5 ≤ g)
    (g1 : ∀ rest, spB l = (pre ++ [x]) ++ rest → wst R (spB l) = wst row' rest) (g2 : row'.length ≤ R.length + (pre ++ [x]).length) (g4 : W8.ownsRow B 9 1 v' row'.length (stv row')) (g5 : ∀ g, v'.ownBlock = some g → g < w.heap.size ∨ w.heap.size + 5 ≤ g)
    (k1 : W8.os = W.os) (k2 : W8.output = W.output) (k3 : W.heap.size ≤ W8.heap.size) (k4 : ∀ k, k < W.heap.size → some k ≠ v.ownBlock → W8.heap[k]? = W.heap[k]?) (a : Act) : lvEnd (w.heap.size + 5) (Bx3 (w.heap.size + 2 + 1) (w.heap.size + 2) (w.heap.size + 2 + 1 + 1)) (WI w B R l) (WX w B R l) (pre ++ [x]) W .normal a (W8.setCell ⟨w.heap.size, 0, none⟩ v') := by
  have hs := h.size
  have far : ∀ k, w.heap.size ≤ k → k < w.heap.size + 5 → W8.heap[k]? = W.heap[k]? := fun k q1 q2 => k4 k (by omega) (fun e => by have := h5 k e.symm; omega)
  have b0 : W8.heap[w.heap.size]? = some (.cells #[v] 27 (0, 0)) := (far _ (by omega) (by omega)).trans h3
  have oth : ∀ k, k ≠ w.heap.size → (W8.setCell ⟨w.heap.size, 0, none⟩ v').heap[k]? = W8.heap[k]? := fun k hk => Below.heap_setCell W8 _ _ k (fun e => hk e)
  refine ⟨kf_trans (b := W8) ⟨k3, fun q o _ hq ho => ?_⟩ (kf_set b0 _), bx_of (fun k hk => (oth k (by omega)).trans (far k (by omega) (by omega))), ⟨⟨k1.trans h.kb.os, k2.trans h.kb.output, ?_, fun i hi => ?_⟩, ?_, ?_, row', v', g1, g2, set_box b0, own_keep8 g4 (fun g hg => oth g (by have := g5 g hg; omega)), g5⟩⟩
  · refine (k4 q (Array.getElem?_eq_some_iff.1 hq).1 (fun e => ?_)).trans hq
    rcases h4.2 with ⟨e1, _⟩ | ⟨g', cap, cur, e1, _, e3, _⟩
    · rw [e1] at e; cases e
    · rw [e1] at e
      obtain rfl : q = g' := by injection e
      rw [e3] at hq
      injection hq with hq
      subst hq
      cases ho
  · have := h.kb.size; simp; omega
  · exact ((oth i (by omega)).trans (k4 i (by omega) (fun e => by have := (h4.lt i e.symm).1; omega))).trans (h.kb.block i hi)
  · simp; omega
  · exact ((oth _ (by omega)).trans (far _ (by omega) (by omega))).trans h.res
end Go.Proofs.YtgocahalfanpjaaDoor.Fo
