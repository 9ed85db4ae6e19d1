import Derived.Test.YtgocahalfanpjaaDoorCnj
namespace Go.Proofs.YtgocahalfanpjaaDoor.Fo
open Go.ChangeShapes Go.WideShapes Go.ChangeAt Go.RowKit Go.Shelf
set_option linter.unusedVariables false
set_option maxRecDepth 100000
attribute [local go_sem] Oper.semAt_some
/-- a function that holds a range over a function has come to its end -/
def bpm (P : Program) (fn : Func) (R : Ending → World → Prop) : Exit → Act → World → Prop
  | .normal, a, w | .ret, a, w => LeavesInM Fence.wide 3 P fn a.tmps R a.defers .returning w
  | _, _, _ => False
theorem calls_of_wp_marks {P : Program} {f : FuncId} {fn : Func} {c : Code} {args : Array Value} {w : World} {R : Ending → World → Prop} (hf : P.funcs[f]? = some fn) (hb : fn.body = some c)
    (h : c.wp P (bpm P fn R) { tmps := args ++ Array.replicate (fn.ntmps - args.size) undef, defers := [] } w) : Calls P f args w R :=
  (callsIn_wide (n := 3)).1 (callsIn_of_wp_marks hf hb trivial (wpIn_mono (wpIn_wide.2 h) (fun e a w q => by cases e <;> first | exact q | exact q.elim)) rfl)

theorem en_split : ∀ args w, (callFunc 50 args).run Tryd.prog w = .ok (.enter 50 args) w := enters_of Tryd.func50 (by kernel_rfl) rfl
/-- what is kept below B -/
structure KB (B : Nat) (a w : World) : Prop where
  os : w.os = a.os
  output : w.output = a.output
  size : a.heap.size ≤ w.heap.size
  block : ∀ i, i < B → w.heap[i]? = a.heap[i]?
theorem KB.trans {B : Nat} {a b c : World} (h : KB B a b) (k : KB B b c) : KB B a c := ⟨k.os.trans h.os, k.output.trans h.output, Nat.le_trans h.size k.size, fun i hi => (k.block i hi).trans (h.block i hi)⟩
theorem KB.of {B : Nat} {a b : World} (h : Kb 0 a b) (hB : B ≤ a.heap.size) : KB B a b := ⟨h.os, h.output, h.size, fun i hi => h.block i (Nat.zero_le _) (by omega)⟩
/-- between two rounds over the parts -/
structure WI (w : World) (B : Nat) (R : List (List UInt8)) (l : List UInt8) (pre : List (List UInt8)) (W : World) : Prop where
  kb : KB B w W
  size : w.heap.size + 5 ≤ W.heap.size
  res : W.heap[w.heap.size + 1]? = some (.cells #[.int .i64 0, .string ⟨#[]⟩] 23 (0, 0))
  row : ∃ row v, (∀ rest, spB l = pre ++ rest → wst R (spB l) = wst row rest) ∧ row.length ≤ R.length + pre.length ∧ W.heap[w.heap.size]? = some (.cells #[v] 27 (0, 0)) ∧ W.ownsRow B 9 1 v row.length (stv row) ∧ (∀ g, v.ownBlock = some g → g < w.heap.size ∨ w.heap.size + 5 ≤ g)
/-- where a round has returned -/
structure WX (w : World) (B : Nat) (R : List (List UInt8)) (l : List UInt8) (pre : List (List UInt8)) (W : World) : Prop where
  kb : KB B w W
  size : w.heap.size + 5 ≤ W.heap.size
  res : (wst R (spB l)).1 ≠ 0 ∧ W.heap[w.heap.size + 1]? = some (.cells #[.int .i64 (wst R (spB l)).1, .string ⟨#[]⟩] 23 (0, 0))
def Same (w W W' : World) : Prop := W'.os = W.os ∧ W'.output = W.output ∧ W.heap.size ≤ W'.heap.size ∧ ∀ k, k < W.heap.size → k ≠ w.heap.size + 2 → (k < w.heap.size + 5 ∨ ∃ c t f, W.heap[k]? = some (.cells c t f)) → W'.heap[k]? = W.heap[k]?
theorem WI.blk {w : World} {B : Nat} {R : List (List UInt8)} {l : List UInt8} {pre : List (List UInt8)} {W W' : World} (hB : B ≤ w.heap.size) (h : WI w B R l pre W) (k : Same w W W') : WI w B R l pre W' := by
  have hs := h.size
  obtain ⟨row, v, h1, h2, h3, h4, h5⟩ := h.row
  refine ⟨⟨k.1.trans h.kb.os, k.2.1.trans h.kb.output, Nat.le_trans h.kb.size k.2.2.1, fun i hi => (k.2.2.2 i (by omega) (by omega) (.inl (by omega))).trans (h.kb.block i hi)⟩, Nat.le_trans hs k.2.2.1, (k.2.2.2 _ (by omega) (by omega) (.inl (by omega))).trans h.res, row, v, h1, h2, (k.2.2.2 _ (by omega) (by omega) (.inl (by omega))).trans h3, own_keep8 h4 (fun g hg => ?_), h5⟩
  have hl := (h4.lt g hg).2
  refine k.2.2.2 g hl (by have := h5 g hg; omega) (.inr ?_)
  rcases h4.2 with ⟨e, _⟩ | ⟨g', cap, cur, e, _, e3, _⟩
  · rw [e] at hg; cases hg
  · rw [e] at hg
    obtain rfl : g' = g := by injection hg
    exact ⟨_, _, _, e3⟩
theorem WX.blk {w : World} {B : Nat} {R : List (List UInt8)} {l : List UInt8} {pre : List (List UInt8)} {W W' : World} (hB : B ≤ w.heap.size) (h : WX w B R l pre W) (k : Same w W W') : WX w B R l pre W' := by
  have hs := h.size
  exact ⟨⟨k.1.trans h.kb.os, k.2.1.trans h.kb.output, Nat.le_trans h.kb.size k.2.2.1, fun i hi => (k.2.2.2 i (by omega) (by omega) (.inl (by omega))).trans (h.kb.block i hi)⟩, Nat.le_trans hs k.2.2.1, h.res.1, (k.2.2.2 _ (by omega) (by omega) (.inl (by omega))).trans h.res.2⟩
theorem same_own {w X X' : World} {row : Option Nat} (hg : X.grownBy X' row) (hr : ∀ r, row = some r → w.heap.size + 5 ≤ r ∧ ∃ o : Obj, X.heap[r]? = some o ∧ o.isCells = false) : Same w X X' := by
  refine ⟨hg.os, hg.output, hg.size, fun k hk _ hc => hg.block k hk (fun e => ?_)⟩
  obtain ⟨h1, o, h2, h3⟩ := hr k e.symm
  rcases hc with hc | ⟨c, t, f, hc⟩
  · omega
  · rw [hc] at h2
    injection h2 with h2
    subst h2
    cases h3
theorem own_wi {w : World} {B : Nat} {R : List (List UInt8)} {l : List UInt8} (hB : B ≤ w.heap.size) : OwnFrom (w.heap.size + 5) (WI w B R l) := fun pre X X' row h hg hr => h.blk hB (same_own hg hr)
theorem own_wx {w : World} {B : Nat} {R : List (List UInt8)} {l : List UInt8} (hB : B ≤ w.heap.size) : OwnFrom (w.heap.size + 5) (WX w B R l) := fun pre X X' row h hg hr => h.blk hB (same_own hg hr)
theorem same_kx {w W W' : World} (h : Kx (w.heap.size + 2) W W') : Same w W W' := ⟨h.os, h.output, h.size, fun k hk hn _ => h.block k hk hn⟩
end Go.Proofs.YtgocahalfanpjaaDoor.Fo
