import Derived.Test.YtladepgpandklaaGreatDoorMVdv
namespace Go.Proofs.YtladepgpandklaaGreatDoor
open Go.ChangeShapes Go.WideShapes Go.ChangeAt Go.RowKit
set_option linter.unusedVariables false
set_option maxRecDepth 100000
section
variable {P : Program} {ops : Array Oper} {Q : Exit → Act → World → Prop} {md : Region.Mode} {S : World → Prop} {z : Nat}
/-- two operations may come up -/
theorem AnyL.two (i j : Nat) {l : List Oper} {oi oj : Oper} {k : Nat} {listed : Array Bool} {a : Act} {w : World} (hi : l[i]? = some oi) (hj : l[j]? = some oj) (hr : Region.ready md l.toArray listed = [i, j]) (hwi : Region.wanted oi (yielded l.toArray a.tmps) = true) (hwj : Region.wanted oj (yielded l.toArray a.tmps) = true)
    (h1 : ∀ K : Act → World → Prop, Shut (∀ a' w', (i ≠ z → S w') → AnyL P md l.toArray Q S z k (listed.setIfInBounds i true) a' w' → K a' w') → Oper.wp P oi a w K Q)
    (h2 : ∀ K : Act → World → Prop, Shut (∀ a' w', (j ≠ z → S w') → AnyL P md l.toArray Q S z k (listed.setIfInBounds j true) a' w' → K a' w') → Oper.wp P oj a w K Q) : AnyL P md l.toArray Q S z (k + 1) listed a w := by
  refine ⟨fun h => absurd h (by rw [hr]; simp), fun m hm => ?_⟩
  rw [hr] at hm
  have hm' : m = i ∨ m = j := by simpa using hm
  rcases hm' with rfl | rfl
  · unfold wpOp
    have hi' : l.toArray[m]? = some oi := by simpa using hi
    simp only [hi', hwi, if_true]
    exact Or.inl (h1 _ (fun a' w' h1 h2 => ⟨h1, h2⟩))
  · unfold wpOp
    have hj' : l.toArray[m]? = some oj := by simpa using hj
    simp only [hj', hwj, if_true]
    exact Or.inl (h2 _ (fun a' w' h1 h2 => ⟨h1, h2⟩))
end
/-- the six cells of an answer in block B -/
structure Ac (W : World) (B : Nat) (c : Int) (v : Vv) : Prop where
  c0 : W.cell? ⟨B, 0, none⟩ = some (.int .i64 c)
  c1 : W.cell? ⟨B, 1, none⟩ = some (.int .i64 v.k)
  c2 : W.cell? ⟨B, 2, none⟩ = some (.int .i64 v.m)
  c3 : W.cell? ⟨B, 3, none⟩ = some (.float .f64 v.g)
  c4 : W.cell? ⟨B, 4, none⟩ = some (.string v.x)
  c5 : W.cell? ⟨B, 5, none⟩ = some (.int .i64 v.r)
theorem Ac.kq {a w : World} {B : Nat} {c : Int} {v : Vv} (h : Ac a B c v) (g : Kq a w) : Ac w B c v := ⟨g.cell h.c0, g.cell h.c1, g.cell h.c2, g.cell h.c3, g.cell h.c4, g.cell h.c5⟩
/-- a world behind w with two values in the blocks B and B + 1 -/
structure Lw (w W : World) (B : Nat) (a b : Vv) : Prop where
  kq : Kq w W
  a : Vc W B a
  b : Vc W (B + 1) b
theorem Lw.step {w W W' : World} {B : Nat} {a b : Vv} (h : Lw w W B a b) (k : Kq W W') : Lw w W' B a b := ⟨h.kq.trans k, h.a.kq k, h.b.kq k⟩
/-- an answer is written -/
theorem fin_set {w W : World} {B Z : Nat} {a b : Vv} (h : Lw w W B a b) (hr : Rv W Z) (hz : w.heap.size ≤ Z) (hB : B + 1 < w.heap.size) (va' : Vc w B a) (vb' : Vc w (B + 1) b) (c k m : Int) (g : Nat) (x : ByteArray) (r : Int) : Lw w (s6 W Z c k m g x r) B a b ∧ Ac (s6 W Z c k m g x r) Z c ⟨k, m, g, x, r⟩ := by
  have kk := s6_kq h.kq hz c k m g x r
  obtain ⟨e0, e1, e2, e3, e4, e5⟩ := rv_set' hr c k m g x r
  exact ⟨⟨kk, va'.kq kk, vb'.kq kk⟩, ⟨e0, e1, e2, e3, e4, e5⟩⟩
end Go.Proofs.YtladepgpandklaaGreatDoor
