import Derived.Test.YtgpbmmhfhjobkaaBae
namespace Go.Proofs.Ytgpbmmhfhjobkaa
open Go.ChangeShapes Go.WideShapes Go.ChangeAt Go.RowKit
set_option linter.unusedVariables false
/-- a form's fields, without its rows -/
structure Fv where
  k : Int
  f : Int
  t : Int
  l : Int
  o : Int
  m : Int
  x : ByteArray
/-- a form as a value -/
def fmv (a : Fv) (vn vk : Value) : Value := .agg #[.int .i64 a.k, .int .i64 a.f, .int .i64 a.t, .int .i64 a.l, .int .i64 a.o, .int .i64 a.m, .string a.x, vn, vk]
theorem RowV.below {W W' : World} {v : Value} {n : Nat} {A : Nat → Value} (h : RowV W v n A) (hb : Below W.heap.size W W') : RowV W' v n A := by
  obtain ⟨pa, cap, h1, h2⟩ := h
  refine ⟨pa, cap, h1, fun hn => ?_⟩
  obtain ⟨a, ha, hc, hr⟩ := h2 hn
  exact ⟨a, ha, hc, fun i hi => (hb.cell (lt_of_cell' (hr i hi))).trans (hr i hi)⟩
theorem bdn {B : Nat} {a w : World} (h : Below B a w) (n : Nat) : Below B a (w.drewN n) := ⟨h.os, h.tape, h.output, h.size, h.block⟩
theorem bel2 (w : World) (a b : Obj) : Below w.heap.size w ((w.alloc a).alloc b) := ((Below.refl _ w).alloc (Nat.le_refl _) _).alloc (by simp) _
theorem bel1 (w : World) (a : Obj) : Below w.heap.size w (w.alloc a) := (Below.refl _ w).alloc (Nat.le_refl _) _
set_option maxRecDepth 100000 in
set_option maxHeartbeats 4000000 in
theorem eq_form {a : Fv} {n1 k1 n2 k2 : Value} {p q : Nat} {A : Nat → ByteArray} {K : Nat → Int} (w : World)
    (h1 : RowV w n1 p (fun i => .string (A i))) (h2 : RowV w n2 p (fun i => .string (A i))) (h3 : RowV w k1 q (fun i => .int .i64 (K i))) (h4 : RowV w k2 q (fun i => .int .i64 (K i))) (hp : p ≤ 1048576) (hq : q ≤ 1048576) :
    Calls Try.prog 24 #[fmv a n1 k1, fmv a n2 k2] w fun e w' => e = .returned (.bool true) ∧ Below w.heap.size w w' := by
  unfold fmv
  have g1 : Hid (∀ W', Below w.heap.size w W' → Calls Try.prog 34 #[n1, n2] W' fun e w' => e = .returned (.bool true) ∧ ∃ d, w' = W'.drewN d) := (fun W' hb => eq_strs W' (h1.below hb) (h2.below hb) hp : ∀ W', _)
  have g2 : Hid (∀ W', Below w.heap.size w W' → Calls Try.prog 35 #[k1, k2] W' fun e w' => e = .returned (.bool true) ∧ ∃ d, w' = W'.drewN d) := (fun W' hb => eq_ints W' (h3.below hb) (h4.below hb) hq : ∀ W', _)
  clear h1 h2 h3 h4 hp hq
  obtain ⟨k, f, t, l, o, m, x⟩ := a
  go_enter Try.func24, Try.ntmps24
  go_wp2_with fail
  refine (g1 _ (bel2 _ _ _)).mono ?_
  rintro e w5 ⟨rfl, d, rfl⟩
  go_wp2_with fail
  refine (g2 _ (bdn (bel2 _ _ _) _)).mono ?_
  rintro e w5 ⟨rfl, d2, rfl⟩
  go_wp2_with fail
  go_ret
  exact ⟨rfl, bdn (bel2 _ _ _) _⟩
end Go.Proofs.Ytgpbmmhfhjobkaa
