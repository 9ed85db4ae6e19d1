import Derived.Test.YtogenhnonjkanaaDoorSag
import Derived.Test.YtogenhnonjkanaaDoorShc
namespace Go.Proofs.YtogenhnonjkanaaDoor
open Go.ChangeShapes Go.WideShapes Go.ChangeAt Go.RowKit
set_option linter.unusedVariables false
theorem clone_run (s : ByteArray) (h : s.size ≤ 281474976710656) (w : World) : Calls Tryd.prog 75 #[.string s] w fun e w' => e = .returned (.string s) ∧ Below w.heap.size w w' := by
  have hc := lite_clone s w h
  clear h
  go_enter Tryd.func75, Tryd.ntmps75
  go_wp2_with fail
  refine hc.mono ?_
  rintro e w1 ⟨rfl, h1⟩
  clear hc
  go_wp2_with fail
  go_ret
  exact ⟨rfl, h1⟩
/-- the program's tables stand -/
structure Gd (w : World) : Prop where
  words : w.rangeAt 0 0 wordsA.toList
  marks : w.rangeAt 1 0 marksA.toList
  infx : w.rangeAt 2 0 infixA.toList
  err7 : ∃ t v, w.cell? ⟨7, 0, none⟩ = some (.iface t v)
  err6 : ∃ t v, w.cell? ⟨6, 0, none⟩ = some (.iface t v)
  size : 8 ≤ w.heap.size
theorem Kb.cell {B : Nat} {a w : World} (h : Kb B a w) (p : Addr) (h1 : p.block < a.heap.size) (h2 : p.block ≠ B) : w.cell? p = a.cell? p := World.cell?_of_block (h.block p.block h1 h2)
theorem Gd.kb {B : Nat} {a w : World} (h : Gd a) (hB : 8 ≤ B) (hk : Kb B a w) : Gd w := by
  have hs := h.size
  have e : ∀ (g : Nat) (j : Nat), g < 8 → w.cell? ⟨g, j, none⟩ = a.cell? ⟨g, j, none⟩ := fun g j hg => hk.cell ⟨g, j, none⟩ (show g < a.heap.size by omega) (show g ≠ B by omega)
  refine ⟨fun j v hv => ?_, fun j v hv => ?_, fun j v hv => ?_, ?_, ?_, Nat.le_trans hs hk.size⟩
  · rw [e 0 _ (by omega)]; exact h.words j v hv
  · rw [e 1 _ (by omega)]; exact h.marks j v hv
  · rw [e 2 _ (by omega)]; exact h.infx j v hv
  · rw [e 7 0 (by omega)]; exact h.err7
  · rw [e 6 0 (by omega)]; exact h.err6
theorem tab_index (t n : Nat) (A : Array Value) (hu : Tryd.prog.underlying t = some (.array n 9)) (i : Nat) (hi : i < n) (X : ByteArray) (hg : A[i]? = some (.string X)) (W : World) :
    (Instr.index t (.agg A) (.int .i64 (i : Int))).run Tryd.prog W = .ok (.string X) W := by
  simp [Instr.index, run_underlying hu, asIntOf, go_sem, Tryd.sizeOf9, part, Tryd.isAgg9, hg]
  intro h
  omega
theorem words_load (W : World) (h : W.rangeAt 0 0 wordsA.toList) : (Instr.loadAt 79 (.pointer (some ⟨0, 0, none⟩))).run Tryd.prog W = .ok (.agg wordsA) W := by
  have := run_loadAt_mid (P := Tryd.prog) W 0 0 79 wordsA.toList _ h Tryd.underlying79 rfl (by kernel_rfl)
  simpa using this
theorem marks_load (W : World) (h : W.rangeAt 1 0 marksA.toList) : (Instr.loadAt 80 (.pointer (some ⟨1, 0, none⟩))).run Tryd.prog W = .ok (.agg marksA) W := by
  have := run_loadAt_mid (P := Tryd.prog) W 1 0 80 marksA.toList _ h Tryd.underlying80 rfl (by kernel_rfl)
  simpa using this
theorem infix_load (W : World) (h : W.rangeAt 2 0 infixA.toList) : (Instr.loadAt 81 (.pointer (some ⟨2, 0, none⟩))).run Tryd.prog W = .ok (.agg infixA) W := by
  have := run_loadAt_mid (P := Tryd.prog) W 2 0 81 infixA.toList _ h Tryd.underlying81 rfl (by kernel_rfl)
  simpa using this
/-- the answer's block, as it was laid -/
def Rz (n : Nat) (w : World) : Prop := w.heap[n]? = some (.cells #[.int .i64 0, .int .i64 0, .int .i64 0, .int .i64 0, .int .i64 0, .string ⟨#[]⟩] 33 (0, 0))
theorem Rz.lt {n : Nat} {w : World} (h : Rz n w) : n < w.heap.size := (Array.getElem?_eq_some_iff.1 h).1
theorem Rz.kb {B n : Nat} {a w : World} (h : Rz n a) (hk : Kb B a w) (hn : n ≠ B) : Rz n w := (hk.block n h.lt hn).trans h
theorem Rz.new (w : World) : Rz w.heap.size (w.alloc (.cells #[.int .i64 0, .int .i64 0, .int .i64 0, .int .i64 0, .int .i64 0, .string ⟨#[]⟩] 33)) := by show (w.heap.push _)[w.heap.size]? = _; simp
def st6 (W : World) (n : Nat) (a b c d e f : Value) : World := ((((((W.setCell ⟨n, 0, none⟩ a).setCell ⟨n, 1, none⟩ b).setCell ⟨n, 2, none⟩ c).setCell ⟨n, 3, none⟩ d).setCell ⟨n, 4, none⟩ e).setCell ⟨n, 5, none⟩ f)
theorem st6_heap {W : World} {n : Nat} (h : Rz n W) (a b c d e f : Value) : (st6 W n a b c d e f).heap[n]? = some (.cells #[a, b, c, d, e, f] 33 (0, 0)) := by
  unfold Rz at h
  simp [st6, World.setCell, Array.getElem?_modify, h]
theorem st6_c0 {W : World} {n : Nat} (h : Rz n W) (a b c d e f : Value) : ((((((W.setCell ⟨n, 0, none⟩ a).setCell ⟨n, 1, none⟩ b).setCell ⟨n, 2, none⟩ c).setCell ⟨n, 3, none⟩ d).setCell ⟨n, 4, none⟩ e).setCell ⟨n, 5, none⟩ f).cell? ⟨n, 0, none⟩ = some a := by
  have := st6_heap h a b c d e f
  show (st6 W n a b c d e f).cell? ⟨n, 0, none⟩ = some a
  simp [World.cell?, this]
theorem st6_c1 {W : World} {n : Nat} (h : Rz n W) (a b c d e f : Value) : ((((((W.setCell ⟨n, 0, none⟩ a).setCell ⟨n, 1, none⟩ b).setCell ⟨n, 2, none⟩ c).setCell ⟨n, 3, none⟩ d).setCell ⟨n, 4, none⟩ e).setCell ⟨n, 5, none⟩ f).cell? ⟨n, 1, none⟩ = some b := by
  have := st6_heap h a b c d e f
  show (st6 W n a b c d e f).cell? ⟨n, 1, none⟩ = some b
  simp [World.cell?, this]
theorem st6_c2 {W : World} {n : Nat} (h : Rz n W) (a b c d e f : Value) : ((((((W.setCell ⟨n, 0, none⟩ a).setCell ⟨n, 1, none⟩ b).setCell ⟨n, 2, none⟩ c).setCell ⟨n, 3, none⟩ d).setCell ⟨n, 4, none⟩ e).setCell ⟨n, 5, none⟩ f).cell? ⟨n, 2, none⟩ = some c := by
  have := st6_heap h a b c d e f
  show (st6 W n a b c d e f).cell? ⟨n, 2, none⟩ = some c
  simp [World.cell?, this]
theorem st6_c3 {W : World} {n : Nat} (h : Rz n W) (a b c d e f : Value) : ((((((W.setCell ⟨n, 0, none⟩ a).setCell ⟨n, 1, none⟩ b).setCell ⟨n, 2, none⟩ c).setCell ⟨n, 3, none⟩ d).setCell ⟨n, 4, none⟩ e).setCell ⟨n, 5, none⟩ f).cell? ⟨n, 3, none⟩ = some d := by
  have := st6_heap h a b c d e f
  show (st6 W n a b c d e f).cell? ⟨n, 3, none⟩ = some d
  simp [World.cell?, this]
theorem st6_c4 {W : World} {n : Nat} (h : Rz n W) (a b c d e f : Value) : ((((((W.setCell ⟨n, 0, none⟩ a).setCell ⟨n, 1, none⟩ b).setCell ⟨n, 2, none⟩ c).setCell ⟨n, 3, none⟩ d).setCell ⟨n, 4, none⟩ e).setCell ⟨n, 5, none⟩ f).cell? ⟨n, 4, none⟩ = some e := by
  have := st6_heap h a b c d e f
  show (st6 W n a b c d e f).cell? ⟨n, 4, none⟩ = some e
  simp [World.cell?, this]
theorem st6_c5 {W : World} {n : Nat} (h : Rz n W) (a b c d e f : Value) : ((((((W.setCell ⟨n, 0, none⟩ a).setCell ⟨n, 1, none⟩ b).setCell ⟨n, 2, none⟩ c).setCell ⟨n, 3, none⟩ d).setCell ⟨n, 4, none⟩ e).setCell ⟨n, 5, none⟩ f).cell? ⟨n, 5, none⟩ = some f := by
  have := st6_heap h a b c d e f
  show (st6 W n a b c d e f).cell? ⟨n, 5, none⟩ = some f
  simp [World.cell?, this]
theorem Rz.c0 {n : Nat} {w : World} (h : Rz n w) : w.cell? ⟨n, 0, none⟩ = some (.int .i64 0) := by unfold Rz at h; simp [World.cell?, h]
theorem Rz.f0 {n : Nat} {w : World} (h : Rz n w) : w.frozen? ⟨n, 0, none⟩ = false := by unfold Rz at h; simp [World.frozen?, h]
theorem Rz.c1 {n : Nat} {w : World} (h : Rz n w) : w.cell? ⟨n, 1, none⟩ = some (.int .i64 0) := by unfold Rz at h; simp [World.cell?, h]
theorem Rz.f1 {n : Nat} {w : World} (h : Rz n w) : w.frozen? ⟨n, 1, none⟩ = false := by unfold Rz at h; simp [World.frozen?, h]
theorem Rz.c2 {n : Nat} {w : World} (h : Rz n w) : w.cell? ⟨n, 2, none⟩ = some (.int .i64 0) := by unfold Rz at h; simp [World.cell?, h]
theorem Rz.f2 {n : Nat} {w : World} (h : Rz n w) : w.frozen? ⟨n, 2, none⟩ = false := by unfold Rz at h; simp [World.frozen?, h]
theorem Rz.c3 {n : Nat} {w : World} (h : Rz n w) : w.cell? ⟨n, 3, none⟩ = some (.int .i64 0) := by unfold Rz at h; simp [World.cell?, h]
theorem Rz.f3 {n : Nat} {w : World} (h : Rz n w) : w.frozen? ⟨n, 3, none⟩ = false := by unfold Rz at h; simp [World.frozen?, h]
theorem Rz.c4 {n : Nat} {w : World} (h : Rz n w) : w.cell? ⟨n, 4, none⟩ = some (.int .i64 0) := by unfold Rz at h; simp [World.cell?, h]
theorem Rz.f4 {n : Nat} {w : World} (h : Rz n w) : w.frozen? ⟨n, 4, none⟩ = false := by unfold Rz at h; simp [World.frozen?, h]
theorem Rz.c5 {n : Nat} {w : World} (h : Rz n w) : w.cell? ⟨n, 5, none⟩ = some (.string ⟨#[]⟩) := by unfold Rz at h; simp [World.cell?, h]
theorem Rz.f5 {n : Nat} {w : World} (h : Rz n w) : w.frozen? ⟨n, 5, none⟩ = false := by unfold Rz at h; simp [World.frozen?, h]
theorem st6_mv {B n : Nat} {T : ByteArray} {k l : Int} {st : Bool} {w W : World} (h : Mv B T k l st w W) (hn : w.heap.size ≤ n) (hB : n ≠ B) (a b c d e f : Value) : Mv B T k l st w (st6 W n a b c d e f) := by
  obtain ⟨h1, h2⟩ := h
  refine ⟨?_, ?_⟩
  · exact (((((h1.setNew _ hn _).setNew _ hn _).setNew _ hn _).setNew _ hn _).setNew _ hn _).setNew _ hn _
  · unfold Sb at *
    unfold st6
    repeat rw [Below.heap_setCell _ _ _ _ (by exact fun g => hB g.symm)]
    exact h2
end Go.Proofs.YtogenhnonjkanaaDoor
