import Derived.Test.YtamcnmnaadpfoaaMJla
import Derived.Test.YtamcnmnaadpfoaaMJsb
import Derived.Test.YtamcnmnaadpfoaaMJgx
namespace Go.Proofs.Ytamcnmnaadpfoaa.Fo
open Go.ChangeShapes Go.WideShapes Go.ChangeAt Go.RowKit
set_option linter.unusedVariables false
set_option maxRecDepth 100000
/-- a journal's rows -/
def Jr (J : Jd) (W : World) (v u : Value) : Prop := RowV W v J.n (fun i => .string (J.S i)) ∧ Js.RowW 0 W u J.m J.T
theorem Jr.keep {J : Jd} {W W' : World} {v u : Value} (h : Jr J W v u) (k : Kb 0 W W') : Jr J W' v u := ⟨((RowV.rowB h.1).keep k).row, h.2.keep k⟩
/-- a journal's rows, each in a block of its own between L and H -/
structure Jo (J : Jd) (L H : Nat) (W : World) (v u : Value) (g b : Nat) : Prop where
  l : OwnR W v g J.n (fun i => .string (J.S i))
  s : Js.OwV W u b J.m
  hg : L ≤ g ∧ g < H
  hb : L ≤ b ∧ b < H
  ne : g ≠ b
theorem Jo.block {J : Jd} {L H : Nat} {W W' : World} {v u : Value} {g b : Nat} (h : Jo J L H W v u g b) (hk : ∀ q, L ≤ q → q < H → W'.heap[q]? = W.heap[q]?) : Jo J L H W' v u g b :=
  ⟨h.l.block (fun _ => hk g h.hg.1 h.hg.2), h.s.block (fun _ => hk b h.hb.1 h.hb.2), h.hg, h.hb, h.ne⟩
def Jx (J : Jd) (L : Nat) (W : World) (v u : Value) : Prop := Jr J W v u ∧ ∃ g b, Jo J L W.heap.size W v u g b
/-- a journal is not too great -/
def Jb (J : Jd) : Prop := J.n ≤ 1048576 ∧ J.m ≤ 1048576 ∧ ∀ i, i < J.m → (J.T i).x.size ≤ 1048576
theorem kb_below {W W' : World} (h : Below W.heap.size W W') : Kb 0 W W' := Kb.of_below h 0
set_option maxHeartbeats 8000000 in
theorem eq_jour {J : Jd} {p1 p2 r1 r2 : Option Addr} {c1 c2 d1 d2 : Nat} (w : World) (hj : Jr J w (.slice p1 J.n c1) (.slice p2 J.m c2)) (hk : Jr J w (.slice r1 J.n d1) (.slice r2 J.m d2)) (hb : Jb J) :
    Calls Try.prog 23 #[.agg #[.slice p1 J.n c1, .int .i64 J.p, .int .i64 J.q, .slice p2 J.m c2], .agg #[.slice r1 J.n d1, .int .i64 J.p, .int .i64 J.q, .slice r2 J.m d2]] w fun e w' => e = .returned (.bool true) ∧ Kb 0 w w' := by
  obtain ⟨w2, hw2⟩ : ∃ w2, w2 = (w.alloc (.cells #[.slice p1 J.n c1, .int .i64 J.p, .int .i64 J.q, .slice p2 J.m c2] 26)).alloc (.cells #[.slice r1 J.n d1, .int .i64 J.p, .int .i64 J.q, .slice r2 J.m d2] 26) := ⟨_, rfl⟩
  have k2 : Kb 0 w w2 := by rw [hw2]; exact kb_alloc2 _ _ _ _
  have b0 : w2.heap[w.heap.size]? = some (.cells #[.slice p1 J.n c1, .int .i64 J.p, .int .i64 J.q, .slice p2 J.m c2] 26 (0, 0)) := by
    rw [hw2, (kb_alloc 0 _ _).block _ (Nat.zero_le _) (by rw [World.size_alloc]; omega)]
    exact alloc_new _ _ _
  have b1 : w2.heap[w.heap.size + 1]? = some (.cells #[.slice r1 J.n d1, .int .i64 J.p, .int .i64 J.q, .slice r2 J.m d2] 26 (0, 0)) := by
    have e : (w.alloc (.cells #[.slice p1 J.n c1, .int .i64 J.p, .int .i64 J.q, .slice p2 J.m c2] 26)).heap.size = w.heap.size + 1 := World.size_alloc _ _
    rw [hw2, ← e]
    exact alloc_new _ _ _
  have HL := eq_strs w2 (hj.keep k2).1 (hk.keep k2).1 hb.1
  have HT : Hid (∀ W, Kb 0 w2 W → Calls Try.prog 47 #[.slice p2 J.m c2, .slice r2 J.m d2] W fun e w' => e = .returned (.bool true) ∧ Kb 0 W w') := (fun W k => Js.eq_sts W ((hj.keep k2).keep k).2 ((hk.keep k2).keep k).2 hb.2.1 : ∀ W, _)
  have HB : Hid (∀ W, Kb 0 w2 W → (W.cell? ⟨w.heap.size, 1, none⟩ = some (.int .i64 J.p) ∧ W.cell? ⟨w.heap.size, 2, none⟩ = some (.int .i64 J.q) ∧ W.cell? ⟨w.heap.size, 3, none⟩ = some (.slice p2 J.m c2)) ∧ W.cell? ⟨w.heap.size + 1, 1, none⟩ = some (.int .i64 J.p) ∧ W.cell? ⟨w.heap.size + 1, 2, none⟩ = some (.int .i64 J.q) ∧ W.cell? ⟨w.heap.size + 1, 3, none⟩ = some (.slice r2 J.m d2)) := (fun W k => ⟨⟨k.cell (cell_of b0 rfl), k.cell (cell_of b0 rfl), k.cell (cell_of b0 rfl)⟩, k.cell (cell_of b1 rfl), k.cell (cell_of b1 rfl), k.cell (cell_of b1 rfl)⟩ : ∀ W, _)
  have c0 : w2.cell? ⟨w.heap.size, 0, none⟩ = some (.slice p1 J.n c1) := cell_of b0 rfl
  have c1' : w2.cell? ⟨w.heap.size + 1, 0, none⟩ = some (.slice r1 J.n d1) := cell_of b1 rfl
  have HW : Hid (w2 = (w.alloc (.cells #[.slice p1 J.n c1, .int .i64 J.p, .int .i64 J.q, .slice p2 J.m c2] 26)).alloc (.cells #[.slice r1 J.n d1, .int .i64 J.p, .int .i64 J.q, .slice r2 J.m d2] 26)) := hw2
  have HK : Hid (Kb 0 w w2) := k2
  clear hj hk hb hw2 k2 b0 b1
  obtain ⟨n, S, p, q, m, T⟩ := J
  dsimp only at HL HT HB HW c0 c1' ⊢
  have hpp : (p != p) = false := by simp
  have hqq : (q != q) = false := by simp
  go_enter Try.func23, Try.ntmps23
  go_upto_region 1 with fail
  rw [← (show w2 = _ from HW)]
  clear HW
  go_wp2_with fail
  refine HL.mono ?_
  rintro e w3 ⟨rfl, nd, hd⟩
  have k3 : Kb 0 w2 w3 := kb_drewN ⟨nd, hd⟩
  obtain ⟨⟨x1, x2, x3⟩, x4, x5, x6⟩ := (show ∀ W, Kb 0 w2 W → _ from HB) w3 k3
  have HT3 := (show ∀ W, Kb 0 w2 W → _ from HT) w3 k3
  have HK3 : Hid (Kb 0 w w3) := (show Kb 0 w w2 from HK).trans k3
  clear HL HB HT c0 c1' k3 hd
  go_wp2_with fail
  refine HT3.mono ?_
  rintro e w4 ⟨rfl, k4⟩
  have HF : Hid (Kb 0 w w4) := (show Kb 0 w w3 from HK3).trans k4
  clear HT3 k4 x1 x2 x3 x4 x5 x6
  go_wp2_with fail
  go_ret
  exact ⟨rfl, HF⟩
end Go.Proofs.Ytamcnmnaadpfoaa.Fo
