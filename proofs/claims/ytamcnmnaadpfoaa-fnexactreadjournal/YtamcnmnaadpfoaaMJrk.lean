import Derived.Test.YtamcnmnaadpfoaaMJha
import Derived.Test.YtamcnmnaadpfoaaMJrg
namespace Go.Proofs.Ytamcnmnaadpfoaa.Fo
open Go.ChangeShapes Go.WideShapes Go.ChangeAt Go.RowKit
set_option linter.unusedVariables false
set_option maxRecDepth 100000
set_option maxHeartbeats 8000000 in
theorem mark_jour {J : Jd} {p1 p2 : Option Addr} {c1 c2 L H g b : Nat} (w : World) (h : Jo J L H w (.slice p1 J.n c1) (.slice p2 J.m c2) g b) (hH : H ≤ w.heap.size) (hb : Jb J) :
    Calls Try.prog 24 #[.agg #[.slice p1 J.n c1, .int .i64 J.p, .int .i64 J.q, .slice p2 J.m c2], .int .i64 1] w fun e w' => e = .returned (.int .i64 (1 + (J.n : Int) + 4 * (J.m : Int))) ∧ Kq (fun q => L ≤ q ∧ q < H) w w' ∧ OwnR w' (.slice p1 J.n c1) g J.n (fun i => .string (mtx (1 + i))) ∧ Js.MdV w' (.slice p2 J.m c2) b J.m (1 + (J.n : Int)) := by
  obtain ⟨w1, hw1⟩ : ∃ w1, w1 = w.alloc (.cells #[.slice p1 J.n c1, .int .i64 J.p, .int .i64 J.q, .slice p2 J.m c2] 26) := ⟨_, rfl⟩
  have k1 : Kb 0 w w1 := by rw [hw1]; exact kb_alloc _ _ _
  have q1 : Kq (fun q => L ≤ q ∧ q < H) w w1 := by rw [hw1]; exact Kq.of_below ((Below.refl _ w).alloc (Nat.le_refl _) _) (Nat.le_refl _)
  have b1 : w1.heap[w.heap.size]? = some (.cells #[.slice p1 J.n c1, .int .i64 J.p, .int .i64 J.q, .slice p2 J.m c2] 26 (0, 0)) := by rw [hw1]; exact alloc_new _ _ _
  have h1 : Jo J L H w1 (.slice p1 J.n c1) (.slice p2 J.m c2) g b := h.block (fun q _ hq => k1.block q (Nat.zero_le _) (by omega))
  have c0 : w1.cell? ⟨w.heap.size, 0, none⟩ = some (.slice p1 J.n c1) := cell_of b1 rfl
  have HM := mark_strs w1 1 h1.l (by have := hb.1; omega) (by omega) (by omega)
  have HT : Hid (∀ W, Kq (fun j => 0 < J.n ∧ j = g) w1 W → OwnR W (.slice p1 J.n c1) g J.n (fun i => .string (mtx (1 + i))) → W.cell? ⟨w.heap.size, 3, none⟩ = some (.slice p2 J.m c2) ∧ Calls Try.prog 49 #[.slice p2 J.m c2, .int .i64 (1 + (J.n : Int))] W fun e w' => e = .returned (.int .i64 (1 + (J.n : Int) + 4 * (J.m : Int))) ∧ Kq (fun q => L ≤ q ∧ q < H) w w' ∧ OwnR w' (.slice p1 J.n c1) g J.n (fun i => .string (mtx (1 + i))) ∧ Js.MdV w' (.slice p2 J.m c2) b J.m (1 + (J.n : Int))) := (fun W k ho => by
    have hg := h.hg
    have hbb := h.hb
    have hne := h.ne
    have hn1 := hb.1
    have z1 : w1.heap.size = w.heap.size + 1 := by rw [hw1]; simp
    have bW : W.heap[w.heap.size]? = _ := (k.block w.heap.size (by omega) (fun e => by omega)).trans b1
    refine ⟨cell_of bW rfl, ?_⟩
    have hs : Js.OwV W (.slice p2 J.m c2) b J.m := h1.s.block (fun _ => k.block b (by omega) (fun e => hne e.2.symm))
    refine (Js.mark_sts W (1 + (J.n : Int)) hs hb.2.1 (by omega) (by omega)).mono ?_
    rintro e w' ⟨he, kq, hm⟩
    refine ⟨he, (q1.trans (k.mono (fun q e => by rw [e.2]; exact hg))).trans (kq.mono (fun q e => by rw [e.2]; exact hbb)), ho.block (fun _ => kq.block g (by have := k.size; omega) (fun e => hne e.2)), hm⟩ : ∀ W, _)
  have HW : Hid (w1 = w.alloc (.cells #[.slice p1 J.n c1, .int .i64 J.p, .int .i64 J.q, .slice p2 J.m c2] 26)) := hw1
  rw [show ((1 : Nat) : Int) = 1 from rfl] at HM
  clear h hH hb hw1 k1 q1 b1 h1
  obtain ⟨n, S, p, q, m, T⟩ := J
  dsimp only at *
  go_enter Try.func24, Try.ntmps24
  go_upto_region 1 with fail
  rw [← (show w1 = _ from HW)]
  clear HW
  go_wp2_with fail
  refine HM.mono ?_
  rintro e w2 ⟨rfl, k2, o2⟩
  obtain ⟨c3, HS⟩ := (show ∀ W, _ from HT) w2 k2 o2
  clear HM HT c0 k2 o2
  go_wp2_with fail
  refine HS.mono ?_
  rintro e w3 ⟨rfl, HF⟩
  replace HF : Hid (_ ∧ _ ∧ _) := HF
  clear HS c3
  go_wp2_with fail
  go_ret
  exact ⟨rfl, HF⟩
end Go.Proofs.Ytamcnmnaadpfoaa.Fo

namespace Go.Proofs.Ytamcnmnaadpfoaa.Fo
open Go.ChangeShapes Go.WideShapes Go.ChangeAt Go.RowKit
set_option linter.unusedVariables false
set_option maxRecDepth 100000
theorem Jr.congr {J K : Jd} {W : World} {v u : Value} (e : Jeq J K) (h : Jr K W v u) : Jr J W v u := by
  obtain ⟨⟨pa, ca, h1, h2⟩, ⟨pb, cb, h3, h4⟩⟩ := h
  refine ⟨⟨pa, ca, by rw [e.n]; exact h1, fun hn => ?_⟩, ⟨pb, cb, by rw [e.m]; exact h3, fun hm => ?_⟩⟩
  · obtain ⟨a, e1, e2, e3⟩ := h2 (by rw [← e.n]; exact hn)
    refine ⟨a, e1, by rw [e.n]; exact e2, fun i hi => ?_⟩
    show W.cell? (a.add i) = some (.string (J.S i))
    rw [e.S i hi]
    exact e3 i (by rw [← e.n]; exact hi)
  · obtain ⟨a, e1, e2, e0, e3⟩ := h4 (by rw [← e.m]; exact hm)
    refine ⟨a, e1, by rw [e.m]; exact e2, e0, fun i hi => ?_⟩
    rw [e.T i hi]
    exact e3 i (by rw [← e.m]; exact hi)
set_option maxHeartbeats 8000000 in
theorem eq_jd {ok : Bool} {J : Jd} {v u v' u' : Value} (w : World) (ha : Jr J w v u) (hv : Jr J w v' u') (hb : Jb J) :
    Calls Try.prog 8 #[.agg #[.bool ok, v, .int .i64 J.p, .int .i64 J.q, u], .agg #[.bool ok, v', .int .i64 J.p, .int .i64 J.q, u']] w fun e w' => e = .returned (.bool true) ∧ Kb 0 w w' := by
  obtain ⟨w2, hw2⟩ : ∃ w2, w2 = (w.alloc (.cells #[.bool ok, v, .int .i64 J.p, .int .i64 J.q, u] 28)).alloc (.cells #[.bool ok, v', .int .i64 J.p, .int .i64 J.q, u'] 28) := ⟨_, rfl⟩
  have k2 : Kb 0 w w2 := by rw [hw2]; exact kb_alloc2 _ _ _ _
  have bp : w2.heap[w.heap.size]? = some (.cells #[.bool ok, v, .int .i64 J.p, .int .i64 J.q, u] 28 (0, 0)) := by
    rw [hw2, (kb_alloc 0 _ _).block _ (Nat.zero_le _) (by rw [World.size_alloc]; omega)]
    exact alloc_new _ _ _
  have bq : w2.heap[w.heap.size + 1]? = some (.cells #[.bool ok, v', .int .i64 J.p, .int .i64 J.q, u'] 28 (0, 0)) := by
    have e : (w.alloc (.cells #[.bool ok, v, .int .i64 J.p, .int .i64 J.q, u] 28)).heap.size = w.heap.size + 1 := World.size_alloc _ _
    rw [hw2, ← e]
    exact alloc_new _ _ _
  have p0 : w2.cell? ⟨w.heap.size, 0, none⟩ = some (.bool ok) := cell_of bp rfl
  have p1 : w2.cell? ⟨w.heap.size, 1, none⟩ = some (v) := cell_of bp rfl
  have p2 : w2.cell? ⟨w.heap.size, 2, none⟩ = some (.int .i64 J.p) := cell_of bp rfl
  have p3 : w2.cell? ⟨w.heap.size, 3, none⟩ = some (.int .i64 J.q) := cell_of bp rfl
  have p4 : w2.cell? ⟨w.heap.size, 4, none⟩ = some (u) := cell_of bp rfl
  have q0 : w2.cell? ⟨w.heap.size + 1, 0, none⟩ = some (.bool ok) := cell_of bq rfl
  have q1 : w2.cell? ⟨w.heap.size + 1, 1, none⟩ = some (v') := cell_of bq rfl
  have q2 : w2.cell? ⟨w.heap.size + 1, 2, none⟩ = some (.int .i64 J.p) := cell_of bq rfl
  have q3 : w2.cell? ⟨w.heap.size + 1, 3, none⟩ = some (.int .i64 J.q) := cell_of bq rfl
  have q4 : w2.cell? ⟨w.heap.size + 1, 4, none⟩ = some (u') := cell_of bq rfl
  obtain ⟨pv, cv, rfl, _⟩ := id ha.1
  obtain ⟨pu, cu, rfl, _⟩ := id ha.2
  obtain ⟨pw, cw, rfl, _⟩ := id hv.1
  obtain ⟨px, cx, rfl, _⟩ := id hv.2
  have HE := eq_jour w2 (ha.keep k2) (hv.keep k2) hb
  have hok : (ok != ok) = false := by cases ok <;> rfl
  have HW2 : Hid (w2 = _) := hw2
  have HK : Hid (Kb 0 w w2) := k2
  clear hw2 k2 bp bq hb ha hv
  obtain ⟨n, S, p, q, m, T⟩ := J
  dsimp only at *
  go_enter Try.func8, Try.ntmps8
  go_upto_region 1 with fail
  rw [← (show w2 = _ from HW2)]
  clear HW2
  go_wp2_with fail
  refine HE.mono ?_
  rintro e w3 ⟨rfl, k3⟩
  have HF : Hid (Kb 0 w w3) := (show Kb 0 w w2 from HK).trans k3
  clear HE HK k3 p0 p1 p2 p3 p4 q0 q1 q2 q3 q4
  go_wp2_with fail
  go_ret
  exact ⟨rfl, HF⟩
set_option maxHeartbeats 8000000 in
theorem mark_jd {L H g b : Nat} {ok : Bool} {J : Jd} {v u : Value} (w : World) (h : Jo J L H w v u g b) (hH : H ≤ w.heap.size) (hb : Jb J) :
    Calls Try.prog 11 #[.agg #[.bool ok, v, .int .i64 J.p, .int .i64 J.q, u], .int .i64 1] w fun e w' => e = .returned (.int .i64 (1 + (J.n : Int) + 4 * (J.m : Int))) ∧ Kq (fun q => L ≤ q ∧ q < H) w w' ∧ OwnR w' v g J.n (fun i => .string (mtx (1 + i))) ∧ Js.MdV w' u b J.m (1 + (J.n : Int)) := by
  obtain ⟨w2, hw2⟩ : ∃ w2, w2 = w.alloc (.cells #[.bool ok, v, .int .i64 J.p, .int .i64 J.q, u] 28) := ⟨_, rfl⟩
  have k2 : Kb 0 w w2 := by rw [hw2]; exact kb_alloc _ _ _
  have kq2 : Kq (fun q => L ≤ q ∧ q < H) w w2 := by rw [hw2]; exact Kq.of_below ((Below.refl _ w).alloc (Nat.le_refl _) _) (Nat.le_refl _)
  have bp : w2.heap[w.heap.size]? = some (.cells #[.bool ok, v, .int .i64 J.p, .int .i64 J.q, u] 28 (0, 0)) := by rw [hw2]; exact alloc_new _ _ _
  have p0 : w2.cell? ⟨w.heap.size, 0, none⟩ = some (.bool ok) := cell_of bp rfl
  have p1 : w2.cell? ⟨w.heap.size, 1, none⟩ = some (v) := cell_of bp rfl
  have p2 : w2.cell? ⟨w.heap.size, 2, none⟩ = some (.int .i64 J.p) := cell_of bp rfl
  have p3 : w2.cell? ⟨w.heap.size, 3, none⟩ = some (.int .i64 J.q) := cell_of bp rfl
  have p4 : w2.cell? ⟨w.heap.size, 4, none⟩ = some (u) := cell_of bp rfl
  obtain ⟨pv, cv, rfl, _⟩ := id h.l.sl
  obtain ⟨pu, cu, rfl, _⟩ := id h.s
  have HM := mark_jour w2 (h.block (fun q _ hq => k2.block q (Nat.zero_le _) (by omega))) (by have := k2.size; omega) hb
  have HW2 : Hid (w2 = _) := hw2
  have HK : Hid (Kb 0 w w2 ∧ Kq (fun q => L ≤ q ∧ q < H) w w2) := (⟨k2, kq2⟩ : _ ∧ _)
  clear hw2 k2 kq2 bp h hH hb
  obtain ⟨n, S, p, q, m, T⟩ := J
  dsimp only at *
  obtain ⟨KX, hKX⟩ : ∃ KX : Int, KX = 1 + (n : Int) + 4 * (m : Int) := ⟨_, rfl⟩
  rw [← hKX] at HM ⊢
  clear hKX
  go_enter Try.func11, Try.ntmps11
  go_upto_region 1 with fail
  rw [← (show w2 = _ from HW2)]
  clear HW2
  go_wp2_with fail
  refine HM.mono ?_
  rintro e w3 ⟨rfl, k3, m3, m4⟩
  have HF : Hid (Kq (fun q => L ≤ q ∧ q < H) w w3 ∧ OwnR w3 (.slice pv n cv) g n (fun i => .string (mtx (1 + i))) ∧ Js.MdV w3 (.slice pu m cu) b m (1 + (n : Int))) := (⟨(show _ ∧ _ from HK).2.trans k3, m3, m4⟩ : _ ∧ _)
  clear HM HK k3 m3 m4 p0 p1 p2 p3 p4
  go_wp2_with fail
  go_ret
  exact ⟨rfl, HF⟩
set_option maxHeartbeats 8000000 in
theorem held_jour {g b : Nat} {J : Jd} {v u : Value} (w : World) (h1 : OwnR w v g J.n (fun i => .string (mtx (1 + i)))) (hg : g < w.heap.size) (h2 : Js.MdV w u b J.m (1 + (J.n : Int))) (hbl : b < w.heap.size) (hb : Jb J) :
    Calls Try.prog 25 #[.agg #[v, .int .i64 J.p, .int .i64 J.q, u], .int .i64 1] w fun e w' => e = .returned (.int .i64 (1 + (J.n : Int) + 4 * (J.m : Int))) ∧ Kb 0 w w' := by
  obtain ⟨w2, hw2⟩ : ∃ w2, w2 = w.alloc (.cells #[v, .int .i64 J.p, .int .i64 J.q, u] 26) := ⟨_, rfl⟩
  have k2 : Kb 0 w w2 := by rw [hw2]; exact kb_alloc _ _ _
  have bp : w2.heap[w.heap.size]? = some (.cells #[v, .int .i64 J.p, .int .i64 J.q, u] 26 (0, 0)) := by rw [hw2]; exact alloc_new _ _ _
  have c0 : w2.cell? ⟨w.heap.size, 0, none⟩ = some v := cell_of bp rfl
  have hn1 := hb.1
  have hm1 := hb.2.1
  have HL := held_strs w2 1 (h1.block (fun _ => k2.block g (Nat.zero_le _) hg)) (by omega) (by omega) (by omega)
  have HS : Hid (∀ W, Kb 0 w2 W → W.cell? ⟨w.heap.size, 3, none⟩ = some u ∧ Calls Try.prog 51 #[u, .int .i64 (1 + (J.n : Int))] W fun e w' => e = .returned (.int .i64 (1 + (J.n : Int) + 4 * (J.m : Int))) ∧ Kb 0 w w') := (fun W k => ⟨k.cell (cell_of bp rfl), (Js.held_sts W (1 + (J.n : Int)) (h2.block (fun _ => (k2.trans k).block b (Nat.zero_le _) hbl)) hm1 (by omega) (by omega)).mono (fun e w' ⟨q1, q2⟩ => ⟨q1, (k2.trans k).trans q2⟩)⟩ : ∀ W, _)
  obtain ⟨pv, cv, rfl, _⟩ := id h1.sl
  obtain ⟨pu, cu, rfl, _⟩ := id h2
  rw [show ((1 : Nat) : Int) = 1 from rfl] at HL
  have HW2 : Hid (w2 = _) := hw2
  have hnI : (J.n : Int) ≤ 1048576 := by omega
  have hmI : (J.m : Int) ≤ 1048576 := by omega
  clear hw2 k2 bp h1 h2 hg hbl hb hn1 hm1
  obtain ⟨n, S, p, q, m, T⟩ := J
  dsimp only at *
  obtain ⟨KX, hKX⟩ : ∃ KX : Int, KX = 1 + (n : Int) + 4 * (m : Int) := ⟨_, rfl⟩
  obtain ⟨KN, hKN⟩ : ∃ KN : Int, KN = 1 + (n : Int) := ⟨_, rfl⟩
  have hx : ¬ KX < 0 := by omega
  have hy : ¬ KN < 0 := by omega
  rw [← hKX] at HS ⊢
  rw [← hKN] at HL HS
  clear hKX hKN hnI hmI
  go_enter Try.func25, Try.ntmps25
  go_upto_region 1 with fail
  rw [← (show w2 = _ from HW2)]
  clear HW2
  go_wp2_with fail
  refine HL.mono ?_
  rintro e w3 ⟨rfl, k3⟩
  obtain ⟨c3, HT⟩ := (show ∀ W, _ from HS) w3 (kb_below k3)
  clear HL HS c0 k3
  go_wp2_with fail
  refine HT.mono ?_
  rintro e w4 ⟨rfl, k4⟩
  have HF : Hid (Kb 0 w w4) := k4
  clear HT k4 c3
  go_wp2_with fail
  go_ret
  exact ⟨rfl, HF⟩
set_option maxHeartbeats 8000000 in
theorem held_jd {g b : Nat} {ok : Bool} {J : Jd} {v u : Value} (w : World) (h1 : OwnR w v g J.n (fun i => .string (mtx (1 + i)))) (hg : g < w.heap.size) (h2 : Js.MdV w u b J.m (1 + (J.n : Int))) (hbl : b < w.heap.size) (hb : Jb J) :
    Calls Try.prog 12 #[.agg #[.bool ok, v, .int .i64 J.p, .int .i64 J.q, u], .int .i64 1] w fun e w' => e = .returned (.int .i64 (1 + (J.n : Int) + 4 * (J.m : Int))) ∧ Kb 0 w w' := by
  obtain ⟨w2, hw2⟩ : ∃ w2, w2 = w.alloc (.cells #[.bool ok, v, .int .i64 J.p, .int .i64 J.q, u] 28) := ⟨_, rfl⟩
  have k2 : Kb 0 w w2 := by rw [hw2]; exact kb_alloc _ _ _
  have bp : w2.heap[w.heap.size]? = some (.cells #[.bool ok, v, .int .i64 J.p, .int .i64 J.q, u] 28 (0, 0)) := by rw [hw2]; exact alloc_new _ _ _
  have p0 : w2.cell? ⟨w.heap.size, 0, none⟩ = some (.bool ok) := cell_of bp rfl
  have p1 : w2.cell? ⟨w.heap.size, 1, none⟩ = some (v) := cell_of bp rfl
  have p2 : w2.cell? ⟨w.heap.size, 2, none⟩ = some (.int .i64 J.p) := cell_of bp rfl
  have p3 : w2.cell? ⟨w.heap.size, 3, none⟩ = some (.int .i64 J.q) := cell_of bp rfl
  have p4 : w2.cell? ⟨w.heap.size, 4, none⟩ = some (u) := cell_of bp rfl
  have HM := held_jour (J := J) w2 (h1.block (fun _ => k2.block g (Nat.zero_le _) hg)) (by have := k2.size; omega) (h2.block (fun _ => k2.block b (Nat.zero_le _) hbl)) (by have := k2.size; omega) hb
  obtain ⟨pv, cv, rfl, _⟩ := id h1.sl
  obtain ⟨pu, cu, rfl, _⟩ := id h2
  have HW2 : Hid (w2 = _) := hw2
  have HK : Hid (Kb 0 w w2) := k2
  clear hw2 k2 bp h1 h2 hg hbl hb
  obtain ⟨n, S, p, q, m, T⟩ := J
  dsimp only at *
  obtain ⟨KX, hKX⟩ : ∃ KX : Int, KX = 1 + (n : Int) + 4 * (m : Int) := ⟨_, rfl⟩
  have hx : ¬ KX < 0 := by omega
  rw [← hKX] at HM ⊢
  clear hKX
  go_enter Try.func12, Try.ntmps12
  go_upto_region 1 with fail
  rw [← (show w2 = _ from HW2)]
  clear HW2
  go_wp2_with fail
  refine HM.mono ?_
  rintro e w3 ⟨rfl, k3⟩
  have HF : Hid (Kb 0 w w3) := (show Kb 0 w w2 from HK).trans k3
  clear HM HK k3 p0 p1 p2 p3 p4
  go_wp2_with fail
  go_ret
  exact ⟨rfl, HF⟩
end Go.Proofs.Ytamcnmnaadpfoaa.Fo
