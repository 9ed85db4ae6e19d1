import Derived.Test.YtdkmnggdelchkaaMJla
import Derived.Test.YtdkmnggdelchkaaMJsb
import Derived.Test.YtdkmnggdelchkaaMJgx
namespace Go.Proofs.Ytdkmnggdelchkaa.Fo
open Go.ChangeShapes Go.WideShapes Go.ChangeAt Go.RowKit
set_option linter.unusedVariables false
set_option maxRecDepth 100000
/-- a journal's rows -/
def Jr (J : Jd) (W : World) (v u : Value) : Prop := RowV W v J.n (fun i => .string (J.S i)) ∧ Js.RowW 0 W u J.m J.T
theorem Jr.keep {J : Jd} {W W' : World} {v u : Value} (h : Jr J W v u) (k : Kb 0 W W') : Jr J W' v u := ⟨((RowV.rowB h.1).keep k).row, h.2.keep k⟩
/-- a journal's rows, each in a block of its own between L and H -/
structure Jo (J : Jd) (L H : Nat) (W : World) (v u : Value) (g b : Nat) : Prop where
  l : OwnR W v g J.n (fun i => .string (J.S i))
  s : Js.OwV W u b J.m
  hg : L ≤ g ∧ g < H
  hb : L ≤ b ∧ b < H
  ne : g ≠ b
theorem Jo.block {J : Jd} {L H : Nat} {W W' : World} {v u : Value} {g b : Nat} (h : Jo J L H W v u g b) (hk : ∀ q, L ≤ q → q < H → W'.heap[q]? = W.heap[q]?) : Jo J L H W' v u g b :=
  ⟨h.l.block (fun _ => hk g h.hg.1 h.hg.2), h.s.block (fun _ => hk b h.hb.1 h.hb.2), h.hg, h.hb, h.ne⟩
def Jx (J : Jd) (L : Nat) (W : World) (v u : Value) : Prop := Jr J W v u ∧ ∃ g b, Jo J L W.heap.size W v u g b
/-- a journal is not too great -/
def Jb (J : Jd) : Prop := J.n ≤ 1048576 ∧ J.m ≤ 1048576 ∧ ∀ i, i < J.m → (J.T i).x.size ≤ 1048576
theorem kb_below {W W' : World} (h : Below W.heap.size W W') : Kb 0 W W' := Kb.of_below h 0
set_option maxHeartbeats 8000000 in
theorem sz_jour {J : Jd} {p1 p2 : Option Addr} {c1 c2 : Nat} (w : World) (hj : Jr J w (.slice p1 J.n c1) (.slice p2 J.m c2)) (hn : (J.n : Int) < 140737488355328) (hm : (J.m : Int) < 140737488355328) (hS : ∀ i, i < J.n → ((J.S i).size : Int) < 140737488355328) (hT : ∀ i, i < J.m → ((J.T i).x.size : Int) < 140737488355328) :
    Calls Try.prog 5 #[.agg #[.slice p1 J.n c1, .int .i64 J.p, .int .i64 J.q, .slice p2 J.m c2], .int .i64 1048576] w fun e w' => ∃ r : Int, e = .returned (.int .i64 r) ∧ (0 ≤ r → Jb J) ∧ -1 ≤ r ∧ r ≤ 1048576 ∧ Kb 0 w w' := by
  obtain ⟨w0, hw0⟩ : ∃ w0, w0 = w.alloc (.cells #[.slice p1 J.n c1, .int .i64 J.p, .int .i64 J.q, .slice p2 J.m c2] 25) := ⟨_, rfl⟩
  have k0 : Kb 0 w w0 := by rw [hw0]; exact kb_alloc _ _ _
  have b0 : w0.heap[w.heap.size]? = some (.cells #[.slice p1 J.n c1, .int .i64 J.p, .int .i64 J.q, .slice p2 J.m c2] 25 (0, 0)) := by rw [hw0]; exact alloc_new _ _ _
  have c0 : w0.cell? ⟨w.heap.size, 0, none⟩ = some (.slice p1 J.n c1) := cell_of b0 rfl
  have c3 : w0.cell? ⟨w.heap.size, 3, none⟩ = some (.slice p2 J.m c2) := cell_of b0 rfl
  have HJ0 := hj.keep k0
  have HL := sz_strs w0 1048576 HJ0.1 hn hS (by omega) (by omega)
  have HT : Hid (∀ l : Int, 0 ≤ l → l ≤ 1048576 → Calls Try.prog 21 #[.slice p2 J.m c2, .int .i64 l] w0 (Szd (J.m + sm (fun i => (J.T i).x.size) J.m) l w0)) := (fun l h0 h1 => Js.szd_sts w0 l HJ0.2 hm hT h0 h1 : ∀ l : Int, _)
  obtain ⟨R, hR⟩ : ∃ R : Int, R = (if lfs J.S (1048576 - (J.n : Int)) J.n < 0 then -1 else lfs J.S (1048576 - (J.n : Int)) J.n) := ⟨_, rfl⟩
  rw [← hR] at HL
  have hRn : 0 ≤ R → J.n ≤ 1048576 := fun h => by
    have := lfs_le J.S (1048576 - (J.n : Int)) J.n
    rw [hR] at h
    split at h <;> omega
  have hR1 : -1 ≤ R := by rw [hR]; split <;> omega
  have hR2 : R ≤ 1048576 := by
    have := lfs_le J.S (1048576 - (J.n : Int)) J.n
    rw [hR]
    split <;> omega
  have HRN : Hid (0 ≤ R → J.n ≤ 1048576) := hRn
  have HJB : Hid (∀ r : Int, 0 ≤ R → r + ((J.m + sm (fun i => (J.T i).x.size) J.m : Nat) : Int) ≤ R → 0 ≤ r → Jb J) := (fun r h1 h2 h3 => ⟨hRn h1, by omega, fun i hi => by have := sm_one (fun i => (J.T i).x.size) hi; omega⟩ : ∀ r : Int, _)
  have HW : Hid (w0 = w.alloc (.cells #[.slice p1 J.n c1, .int .i64 J.p, .int .i64 J.q, .slice p2 J.m c2] 25)) := hw0
  have HK : Hid (Kb 0 w w0) := k0
  obtain ⟨SM, hSM⟩ : ∃ SM, SM = J.m + sm (fun i => (J.T i).x.size) J.m := ⟨_, rfl⟩
  rw [← hSM] at HT HJB
  generalize Jb J = JB at HJB ⊢
  clear hj hn hm hS hT hw0 k0 b0 HJ0 hR hRn hSM HRN
  obtain ⟨n, S, p, q, m, T⟩ := J
  dsimp only at *
  go_enter Try.func5, Try.ntmps5
  go_upto_region 1 with fail
  rw [← (show w0 = _ from HW)]
  clear HW
  go_wp2_with fail
  refine HL.mono ?_
  rintro e w1 ⟨rfl, rfl⟩
  clear HL c0
  rcases Int.lt_or_le R 0 with h | h
  · clear HT HJB c3
    go_wp2_with fail
    go_ret
    exact ⟨-1, rfl, fun f => by omega, by omega, by omega, HK⟩
  have h' : ¬ R < 0 := by omega
  have HT1 := (show ∀ l : Int, _ from HT) R h hR2
  clear HT
  go_wp2_with fail
  refine HT1.mono ?_
  rintro e w2 ⟨r, rfl, hr1, hr2, hr3, k2⟩
  have HF : Hid (Kb 0 w w2 ∧ (0 ≤ r → JB)) := (⟨(show Kb 0 w w1 from HK).trans k2, fun f => (show ∀ r : Int, _ from HJB) r h (hr1 f) f⟩ : _ ∧ _)
  clear HT1 c3 k2 hr1 HJB
  rcases Int.lt_or_le r 0 with g | g
  · go_wp2_with fail
    go_ret
    exact ⟨-1, rfl, fun f => by omega, by omega, by omega, (show _ ∧ _ from HF).1⟩
  have g' : ¬ r < 0 := by omega
  go_wp2_with fail
  go_ret
  exact ⟨r, rfl, (show _ ∧ _ from HF).2, hr2, by omega, (show _ ∧ _ from HF).1⟩
set_option maxHeartbeats 16000000 in
theorem to_jour {J : Jd} {p1 p2 : Option Addr} {c1 c2 : Nat} (w : World) (hj : Jr J w (.slice p1 J.n c1) (.slice p2 J.m c2)) (hb : Jb J) :
    Calls Try.prog 7 #[.agg #[.slice p1 J.n c1, .int .i64 J.p, .int .i64 J.q, .slice p2 J.m c2]] w fun e w' => ∃ v u, e = .returned (.agg #[v, .int .i64 J.p, .int .i64 J.q, u]) ∧ Jx J w.heap.size w' v u ∧ Kb 0 w w' := by
  obtain ⟨w3, hw3⟩ : ∃ w3, w3 = ((w.alloc (.cells #[.slice p1 J.n c1, .int .i64 J.p, .int .i64 J.q, .slice p2 J.m c2] 25)).alloc (.cells #[.slice none 0 0, .int .i64 0, .int .i64 0, .slice none 0 0] 31)).alloc (.cells #[.slice none 0 0, .int .i64 0, .int .i64 0, .slice none 0 0] 31) := ⟨_, rfl⟩
  obtain ⟨b0, b1, b2, z3, k3⟩ := three_new w _ _ _ _ _ _ w3 hw3
  have c0 : w3.cell? ⟨w.heap.size, 0, none⟩ = some (.slice p1 J.n c1) := cell_of b0 rfl
  have HL := to_strs w3 (hj.keep k3).1 hb.1
  have HT : Hid (∀ W, Kb 0 w W → Calls Try.prog 26 #[.slice p2 J.m c2] W fun e w' => ∃ v, e = .returned v ∧ Js.RowX W.heap.size w' v J.m J.T ∧ Kb 0 W w') := (fun W k => Js.to_sts2 W (hj.2.keep k) hb.2.1 : ∀ W, _)
  have HB : Hid (w3.heap[w.heap.size]? = some (.cells #[.slice p1 J.n c1, .int .i64 J.p, .int .i64 J.q, .slice p2 J.m c2] 25 (0, 0)) ∧ w3.heap[w.heap.size + 1]? = some (.cells #[.slice none 0 0, .int .i64 0, .int .i64 0, .slice none 0 0] 31 (0, 0)) ∧ w3.heap[w.heap.size + 1 + 1]? = some (.cells #[.slice none 0 0, .int .i64 0, .int .i64 0, .slice none 0 0] 31 (0, 0)) ∧ w3.heap.size = w.heap.size + 3 ∧ Kb 0 w w3) := (⟨b0, b1, b2, z3, k3⟩ : _ ∧ _)
  have HW : Hid (w3 = ((w.alloc (.cells #[.slice p1 J.n c1, .int .i64 J.p, .int .i64 J.q, .slice p2 J.m c2] 25)).alloc (.cells #[.slice none 0 0, .int .i64 0, .int .i64 0, .slice none 0 0] 31)).alloc (.cells #[.slice none 0 0, .int .i64 0, .int .i64 0, .slice none 0 0] 31)) := hw3
  obtain ⟨JJ, hJJ⟩ : ∃ JJ, JJ = J := ⟨_, rfl⟩
  have HJJ : Hid (JJ = J) := hJJ
  clear hw3 b0 b1 b2 z3 k3 hj hb
  obtain ⟨n, S, p, q, m, T⟩ := J
  dsimp only at c0 HL HT HB HW ⊢
  rw [← hJJ]
  clear hJJ
  go_enter Try.func7, Try.ntmps7
  go_upto_region 2 with fail
  rw [← (show w3 = _ from HW)]
  clear HW
  go_wp2_with fail
  refine HL.mono ?_
  rintro e x0 ⟨v1, rfl, o1, bl1, hl1⟩
  obtain ⟨b0, b1, b2, z3, k3⟩ := (show w3.heap[w.heap.size]? = some (.cells #[.slice p1 n c1, .int .i64 p, .int .i64 q, .slice p2 m c2] 25 (0, 0)) ∧ w3.heap[w.heap.size + 1]? = some (.cells #[.slice none 0 0, .int .i64 0, .int .i64 0, .slice none 0 0] 31 (0, 0)) ∧ w3.heap[w.heap.size + 1 + 1]? = some (.cells #[.slice none 0 0, .int .i64 0, .int .i64 0, .slice none 0 0] 31 (0, 0)) ∧ w3.heap.size = w.heap.size + 3 ∧ Kb 0 w w3 from HB)
  have kx0 := kb_below bl1
  replace b0 := blk_kb b0 kx0
  replace b1 := blk_kb b1 kx0
  replace b2 := blk_kb b2 kx0
  obtain ⟨pv, cv, rfl, -⟩ := id o1.sl
  have y0 : x0.cell? ⟨w.heap.size + 1 + 1, 0, none⟩ = some (.slice none 0 0) := cell_of b2 rfl
  have yf : ∀ j, x0.frozen? ⟨w.heap.size + 1 + 1, j, none⟩ = false := fun j => frozen_of b2
  obtain ⟨X1, hX1⟩ : ∃ X1, X1 = x0.setCell ⟨w.heap.size + 1 + 1, 0, none⟩ (.slice pv n cv) := ⟨_, rfl⟩
  obtain ⟨X2, hX2⟩ : ∃ X2, X2 = X1.setCell ⟨w.heap.size + 1 + 1, 1, none⟩ (.int .i64 p) := ⟨_, rfl⟩
  obtain ⟨X3, hX3⟩ : ∃ X3, X3 = X2.setCell ⟨w.heap.size + 1 + 1, 2, none⟩ (.int .i64 q) := ⟨_, rfl⟩
  have n1 : X1.heap[w.heap.size + 1 + 1]? = some (.cells #[.slice pv n cv, .int .i64 0, .int .i64 0, .slice none 0 0] 31 (0, 0)) := by rw [hX1]; exact set_known _ b2
  have n2 : X2.heap[w.heap.size + 1 + 1]? = some (.cells #[.slice pv n cv, .int .i64 p, .int .i64 0, .slice none 0 0] 31 (0, 0)) := by rw [hX2]; exact set_known _ n1
  have n3 : X3.heap[w.heap.size + 1 + 1]? = some (.cells #[.slice pv n cv, .int .i64 p, .int .i64 q, .slice none 0 0] 31 (0, 0)) := by rw [hX3]; exact set_known _ n2
  have fr1 : ∀ g, g ≠ w.heap.size + 1 + 1 → X1.heap[g]? = x0.heap[g]? := fun g hg => by rw [hX1]; exact Below.heap_setCell _ _ _ _ hg
  have fr2 : ∀ g, g ≠ w.heap.size + 1 + 1 → X2.heap[g]? = x0.heap[g]? := fun g hg => by rw [hX2, Below.heap_setCell _ _ _ _ hg]; exact fr1 g hg
  have fr3 : ∀ g, g ≠ w.heap.size + 1 + 1 → X3.heap[g]? = x0.heap[g]? := fun g hg => by rw [hX3, Below.heap_setCell _ _ _ _ hg]; exact fr2 g hg
  have zX3 : X3.heap.size = x0.heap.size := by rw [hX3, hX2, hX1]; simp
  have y1 : X1.cell? ⟨w.heap.size + 1 + 1, 1, none⟩ = some (.int .i64 0) := cell_of n1 rfl
  have yf1 : ∀ j, X1.frozen? ⟨w.heap.size + 1 + 1, j, none⟩ = false := fun j => frozen_of n1
  have y2 : X2.cell? ⟨w.heap.size + 1 + 1, 2, none⟩ = some (.int .i64 0) := cell_of n2 rfl
  have yf2 : ∀ j, X2.frozen? ⟨w.heap.size + 1 + 1, j, none⟩ = false := fun j => frozen_of n2
  have a1 : X1.cell? ⟨w.heap.size, 1, none⟩ = some (.int .i64 p) := cell_of ((fr1 _ (by omega)).trans b0) rfl
  have a2 : X2.cell? ⟨w.heap.size, 2, none⟩ = some (.int .i64 q) := cell_of ((fr2 _ (by omega)).trans b0) rfl
  have a3 : X3.cell? ⟨w.heap.size, 3, none⟩ = some (.slice p2 m c2) := cell_of ((fr3 _ (by omega)).trans b0) rfl
  have kw0 := k3.trans kx0
  have kX3 : Kb 0 w X3 := ⟨by rw [hX3, hX2, hX1]; exact kw0.os, by rw [hX3, hX2, hX1]; exact kw0.output, by rw [zX3]; exact kw0.size, fun g _ hg => (fr3 g (by omega)).trans (kw0.block g (Nat.zero_le _) hg)⟩
  have HT3 := (show ∀ W, Kb 0 w W → _ from HT) X3 kX3
  have H3 : Hid (Kb 0 w X3 ∧ X3.heap[w.heap.size + 1 + 1]? = some (.cells #[.slice pv n cv, .int .i64 p, .int .i64 q, .slice none 0 0] 31 (0, 0)) ∧ X3.heap[w.heap.size + 1]? = some (.cells #[.slice none 0 0, .int .i64 0, .int .i64 0, .slice none 0 0] 31 (0, 0)) ∧ OwnR X3 (.slice pv n cv) w3.heap.size n (fun i => .string (S i)) ∧ w3.heap.size = w.heap.size + 3 ∧ w3.heap.size < X3.heap.size) := (⟨kX3, n3, (fr3 _ (by omega)).trans b1, o1.block (fun _ => fr3 _ (by omega)), z3, by rw [zX3]; exact hl1⟩ : _ ∧ _)
  have E1 : Hid (X1 = x0.setCell ⟨w.heap.size + 1 + 1, 0, none⟩ (.slice pv n cv)) := hX1
  have E2 : Hid (X2 = X1.setCell ⟨w.heap.size + 1 + 1, 1, none⟩ (.int .i64 p)) := hX2
  have E3 : Hid (X3 = X2.setCell ⟨w.heap.size + 1 + 1, 2, none⟩ (.int .i64 q)) := hX3
  clear HL HB HT c0 o1 bl1 hl1 b0 b1 b2 z3 k3 kx0 hX1 hX2 hX3 n1 n2 n3 fr1 fr2 fr3 zX3 kw0 kX3
  go_upto_region 3 with fail
  rw [← (show X1 = _ from E1)]
  clear E1 y0 yf
  go_upto_region 4 with fail
  rw [← (show X2 = _ from E2)]
  clear E2 y1 yf1 a1
  go_upto_region 5 with fail
  rw [← (show X3 = _ from E3)]
  clear E3 y2 yf2 a2
  go_wp2_with fail
  refine HT3.mono ?_
  rintro e x4 ⟨v2, rfl, r2, k4⟩
  clear HT3 a3
  obtain ⟨kX3, n3, b1, o1, z3, hl3⟩ := (show Kb 0 w X3 ∧ X3.heap[w.heap.size + 1 + 1]? = some (.cells #[.slice pv n cv, .int .i64 p, .int .i64 q, .slice none 0 0] 31 (0, 0)) ∧ X3.heap[w.heap.size + 1]? = some (.cells #[.slice none 0 0, .int .i64 0, .int .i64 0, .slice none 0 0] 31 (0, 0)) ∧ OwnR X3 (.slice pv n cv) w3.heap.size n (fun i => .string (S i)) ∧ w3.heap.size = w.heap.size + 3 ∧ w3.heap.size < X3.heap.size from H3)
  obtain ⟨pu, cu, rfl, -⟩ := id r2.1
  replace n3 := blk_kb n3 k4
  replace b1 := blk_kb b1 k4
  have y3 : x4.cell? ⟨w.heap.size + 1 + 1, 3, none⟩ = some (.slice none 0 0) := cell_of n3 rfl
  have yf3 : ∀ j, x4.frozen? ⟨w.heap.size + 1 + 1, j, none⟩ = false := fun j => frozen_of n3
  obtain ⟨X5, hX5⟩ : ∃ X5, X5 = x4.setCell ⟨w.heap.size + 1 + 1, 3, none⟩ (.slice pu m cu) := ⟨_, rfl⟩
  have n5 : X5.heap[w.heap.size + 1 + 1]? = some (.cells #[.slice pv n cv, .int .i64 p, .int .i64 q, .slice pu m cu] 31 (0, 0)) := by rw [hX5]; exact set_known _ n3
  have fr5 : ∀ g, g ≠ w.heap.size + 1 + 1 → X5.heap[g]? = x4.heap[g]? := fun g hg => by rw [hX5]; exact Below.heap_setCell _ _ _ _ hg
  have m1 : X5.heap[w.heap.size + 1]? = some (.cells #[.slice none 0 0, .int .i64 0, .int .i64 0, .slice none 0 0] 31 (0, 0)) := (fr5 _ (by omega)).trans b1
  have q0 : X5.cell? ⟨w.heap.size + 1 + 1, 0, none⟩ = some (.slice pv n cv) := cell_of n5 rfl
  have q1 : X5.cell? ⟨w.heap.size + 1 + 1, 1, none⟩ = some (.int .i64 p) := cell_of n5 rfl
  have q2 : X5.cell? ⟨w.heap.size + 1 + 1, 2, none⟩ = some (.int .i64 q) := cell_of n5 rfl
  have q3 : X5.cell? ⟨w.heap.size + 1 + 1, 3, none⟩ = some (.slice pu m cu) := cell_of n5 rfl
  have r0 : X5.cell? ⟨w.heap.size + 1, 0, none⟩ = some (.slice none 0 0) := cell_of m1 rfl
  have r1 : X5.cell? ⟨w.heap.size + 1, 1, none⟩ = some (.int .i64 0) := cell_of m1 rfl
  have r2' : X5.cell? ⟨w.heap.size + 1, 2, none⟩ = some (.int .i64 0) := cell_of m1 rfl
  have r3 : X5.cell? ⟨w.heap.size + 1, 3, none⟩ = some (.slice none 0 0) := cell_of m1 rfl
  have rf : ∀ j, X5.frozen? ⟨w.heap.size + 1, j, none⟩ = false := fun j => frozen_of m1
  obtain ⟨WF, hWF⟩ : ∃ WF, WF = (((X5.setCell ⟨w.heap.size + 1, 0, none⟩ (.slice pv n cv)).setCell ⟨w.heap.size + 1, 1, none⟩ (.int .i64 p)).setCell ⟨w.heap.size + 1, 2, none⟩ (.int .i64 q)).setCell ⟨w.heap.size + 1, 3, none⟩ (.slice pu m cu) := ⟨_, rfl⟩
  have t1 : (X5.setCell ⟨w.heap.size + 1, 0, none⟩ (.slice pv n cv)).heap[w.heap.size + 1]? = some (.cells #[.slice pv n cv, .int .i64 0, .int .i64 0, .slice none 0 0] 31 (0, 0)) := set_known _ m1
  have t2 : ((X5.setCell ⟨w.heap.size + 1, 0, none⟩ (.slice pv n cv)).setCell ⟨w.heap.size + 1, 1, none⟩ (.int .i64 p)).heap[w.heap.size + 1]? = some (.cells #[.slice pv n cv, .int .i64 p, .int .i64 0, .slice none 0 0] 31 (0, 0)) := set_known _ t1
  have t3 : (((X5.setCell ⟨w.heap.size + 1, 0, none⟩ (.slice pv n cv)).setCell ⟨w.heap.size + 1, 1, none⟩ (.int .i64 p)).setCell ⟨w.heap.size + 1, 2, none⟩ (.int .i64 q)).heap[w.heap.size + 1]? = some (.cells #[.slice pv n cv, .int .i64 p, .int .i64 q, .slice none 0 0] 31 (0, 0)) := set_known _ t2
  have bF : WF.heap[w.heap.size + 1]? = some (.cells #[.slice pv n cv, .int .i64 p, .int .i64 q, .slice pu m cu] 31 (0, 0)) := by rw [hWF]; exact set_known _ t3
  have e0 : WF.cell? ⟨w.heap.size + 1, 0, none⟩ = some (.slice pv n cv) := cell_of bF rfl
  have e1 : WF.cell? ⟨w.heap.size + 1, 1, none⟩ = some (.int .i64 p) := cell_of bF rfl
  have e2 : WF.cell? ⟨w.heap.size + 1, 2, none⟩ = some (.int .i64 q) := cell_of bF rfl
  have e3 : WF.cell? ⟨w.heap.size + 1, 3, none⟩ = some (.slice pu m cu) := cell_of bF rfl
  have frF : ∀ g, g ≠ w.heap.size + 1 → g ≠ w.heap.size + 1 + 1 → WF.heap[g]? = x4.heap[g]? := fun g h1 h2 => by
    rw [hWF, Below.heap_setCell _ _ _ _ h1, Below.heap_setCell _ _ _ _ h1, Below.heap_setCell _ _ _ _ h1, Below.heap_setCell _ _ _ _ h1]
    exact fr5 g h2
  have zF : WF.heap.size = x4.heap.size := by rw [hWF, hX5]; simp
  have HFF : Hid (Jx JJ w.heap.size WF (.slice pv n cv) (.slice pu m cu) ∧ Kb 0 w WF) := (by
    rw [show JJ = _ from HJJ]
    obtain ⟨rw2, bb, hb1, hb2, hov⟩ := r2
    have s4 := k4.size
    have kl : Kb (w.heap.size + 3) x4 WF := ⟨by rw [hWF, hX5]; rfl, by rw [hWF, hX5]; rfl, by omega, fun g h1 _ => frF g (by omega) (by omega)⟩
    have oF : OwnR WF (.slice pv n cv) w3.heap.size n (fun i => .string (S i)) := o1.block (fun _ => (frF _ (by omega) (by omega)).trans (k4.block _ (Nat.zero_le _) (by omega)))
    have kw4 := kX3.trans k4
    refine ⟨⟨⟨oF.row, ((rw2.mono (show w.heap.size + 3 ≤ X3.heap.size by omega)).keep kl).mono (Nat.zero_le _)⟩, w3.heap.size, bb, ⟨oF, hov.block (fun _ => frF bb (by omega) (by omega)), ⟨by omega, by omega⟩, ⟨by omega, by omega⟩, by omega⟩⟩, ⟨by rw [hWF, hX5]; exact kw4.os, by rw [hWF, hX5]; exact kw4.output, by rw [zF]; exact kw4.size, fun g _ hg => (frF g (by omega) (by omega)).trans (kw4.block g (Nat.zero_le _) hg)⟩⟩ : _ ∧ _)
  have E5 : Hid (X5 = x4.setCell ⟨w.heap.size + 1 + 1, 3, none⟩ (.slice pu m cu)) := hX5
  have EF : Hid (WF = _) := hWF
  clear kX3 n3 b1 o1 z3 hl3 H3 r2 k4 hX5 n5 fr5 m1 hWF t1 t2 t3 bF frF zF HJJ
  go_upto_region 6 with fail
  rw [← (show X5 = _ from E5)]
  clear E5 y3 yf3
  go_wp2_with fail
  rw [← (show WF = _ from EF)]
  clear EF
  refine bodyPost_ret (by simp [results, Try.results7, go_sem, e0, e1, e2, e3]; rfl) rfl ?_
  exact ⟨_, _, rfl, (show _ ∧ _ from HFF).1, (show _ ∧ _ from HFF).2⟩
set_option maxHeartbeats 8000000 in
theorem eq_jour {J : Jd} {p1 p2 r1 r2 : Option Addr} {c1 c2 d1 d2 : Nat} (w : World) (hj : Jr J w (.slice p1 J.n c1) (.slice p2 J.m c2)) (hk : Jr J w (.slice r1 J.n d1) (.slice r2 J.m d2)) (hb : Jb J) :
    Calls Try.prog 10 #[.agg #[.slice p1 J.n c1, .int .i64 J.p, .int .i64 J.q, .slice p2 J.m c2], .agg #[.slice r1 J.n d1, .int .i64 J.p, .int .i64 J.q, .slice r2 J.m d2]] w fun e w' => e = .returned (.bool true) ∧ Kb 0 w w' := by
  obtain ⟨w2, hw2⟩ : ∃ w2, w2 = (w.alloc (.cells #[.slice p1 J.n c1, .int .i64 J.p, .int .i64 J.q, .slice p2 J.m c2] 31)).alloc (.cells #[.slice r1 J.n d1, .int .i64 J.p, .int .i64 J.q, .slice r2 J.m d2] 31) := ⟨_, rfl⟩
  have k2 : Kb 0 w w2 := by rw [hw2]; exact kb_alloc2 _ _ _ _
  have b0 : w2.heap[w.heap.size]? = some (.cells #[.slice p1 J.n c1, .int .i64 J.p, .int .i64 J.q, .slice p2 J.m c2] 31 (0, 0)) := by
    rw [hw2, (kb_alloc 0 _ _).block _ (Nat.zero_le _) (by rw [World.size_alloc]; omega)]
    exact alloc_new _ _ _
  have b1 : w2.heap[w.heap.size + 1]? = some (.cells #[.slice r1 J.n d1, .int .i64 J.p, .int .i64 J.q, .slice r2 J.m d2] 31 (0, 0)) := by
    have e : (w.alloc (.cells #[.slice p1 J.n c1, .int .i64 J.p, .int .i64 J.q, .slice p2 J.m c2] 31)).heap.size = w.heap.size + 1 := World.size_alloc _ _
    rw [hw2, ← e]
    exact alloc_new _ _ _
  have HL := eq_strs w2 (hj.keep k2).1 (hk.keep k2).1 hb.1
  have HT : Hid (∀ W, Kb 0 w2 W → Calls Try.prog 31 #[.slice p2 J.m c2, .slice r2 J.m d2] W fun e w' => e = .returned (.bool true) ∧ Kb 0 W w') := (fun W k => Js.eq_sts W ((hj.keep k2).keep k).2 ((hk.keep k2).keep k).2 hb.2.1 : ∀ W, _)
  have HB : Hid (∀ W, Kb 0 w2 W → (W.cell? ⟨w.heap.size, 1, none⟩ = some (.int .i64 J.p) ∧ W.cell? ⟨w.heap.size, 2, none⟩ = some (.int .i64 J.q) ∧ W.cell? ⟨w.heap.size, 3, none⟩ = some (.slice p2 J.m c2)) ∧ W.cell? ⟨w.heap.size + 1, 1, none⟩ = some (.int .i64 J.p) ∧ W.cell? ⟨w.heap.size + 1, 2, none⟩ = some (.int .i64 J.q) ∧ W.cell? ⟨w.heap.size + 1, 3, none⟩ = some (.slice r2 J.m d2)) := (fun W k => ⟨⟨k.cell (cell_of b0 rfl), k.cell (cell_of b0 rfl), k.cell (cell_of b0 rfl)⟩, k.cell (cell_of b1 rfl), k.cell (cell_of b1 rfl), k.cell (cell_of b1 rfl)⟩ : ∀ W, _)
  have c0 : w2.cell? ⟨w.heap.size, 0, none⟩ = some (.slice p1 J.n c1) := cell_of b0 rfl
  have c1' : w2.cell? ⟨w.heap.size + 1, 0, none⟩ = some (.slice r1 J.n d1) := cell_of b1 rfl
  have HW : Hid (w2 = (w.alloc (.cells #[.slice p1 J.n c1, .int .i64 J.p, .int .i64 J.q, .slice p2 J.m c2] 31)).alloc (.cells #[.slice r1 J.n d1, .int .i64 J.p, .int .i64 J.q, .slice r2 J.m d2] 31)) := hw2
  have HK : Hid (Kb 0 w w2) := k2
  clear hj hk hb hw2 k2 b0 b1
  obtain ⟨n, S, p, q, m, T⟩ := J
  dsimp only at HL HT HB HW c0 c1' ⊢
  have hpp : (p != p) = false := by simp
  have hqq : (q != q) = false := by simp
  go_enter Try.func10, Try.ntmps10
  go_upto_region 1 with fail
  rw [← (show w2 = _ from HW)]
  clear HW
  go_wp2_with fail
  refine HL.mono ?_
  rintro e w3 ⟨rfl, nd, hd⟩
  have k3 : Kb 0 w2 w3 := kb_drewN ⟨nd, hd⟩
  obtain ⟨⟨x1, x2, x3⟩, x4, x5, x6⟩ := (show ∀ W, Kb 0 w2 W → _ from HB) w3 k3
  have HT3 := (show ∀ W, Kb 0 w2 W → _ from HT) w3 k3
  have HK3 : Hid (Kb 0 w w3) := (show Kb 0 w w2 from HK).trans k3
  clear HL HB HT c0 c1' k3 hd
  go_wp2_with fail
  refine HT3.mono ?_
  rintro e w4 ⟨rfl, k4⟩
  have HF : Hid (Kb 0 w w4) := (show Kb 0 w w3 from HK3).trans k4
  clear HT3 k4 x1 x2 x3 x4 x5 x6
  go_wp2_with fail
  go_ret
  exact ⟨rfl, HF⟩
end Go.Proofs.Ytdkmnggdelchkaa.Fo
