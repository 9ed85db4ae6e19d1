import Derived.Deep.RegionHeld3
import Derived.Test.YtdkmnggdelchkaaMJhb
import Derived.Test.YtdkmnggdelchkaaMSub
import Derived.Test.YtdkmnggdelchkaaMHah
namespace Go.Proofs.Ytdkmnggdelchkaa.Fo
open Go.ChangeShapes Go.WideShapes Go.ChangeAt Go.RowKit
set_option linter.unusedVariables false
set_option maxRecDepth 100000
/-- a row of bytes of one's own, made since W0 -/
def An (W0 W : World) (v : Value) (N : Nat) (A : Nat → Int) (g : Nat) : Prop := OwnR W v g N (fun i => .int .u8 (A i)) ∧ (N ≠ 0 → W0.heap.size ≤ g ∧ g < W.heap.size)
theorem own_an {W0 W : World} {v : Value} {l : List Int} (h : W.ownsRow W0.heap.size 5 1 v l.length (bvs l)) : ∃ g, An W0 W v l.length (fun i => l.getD i 0) g := by
  obtain ⟨p, cap, hp⟩ := own_shape h
  by_cases hn : 0 < l.length
  · obtain ⟨g, cap', cur, e, e2, hB, hlt, hcap, hcur, hcell⟩ := own_blk h hn
    rw [hp] at e
    injection e with e3 _ e4
    refine ⟨g, ⟨⟨p, cap, hp, fun _ => ⟨e3, by omega⟩⟩, fun i hi => ?_, fun _ j => frozen_of hcur⟩, fun _ => ⟨hB, hlt⟩⟩
    rw [hcell i (by omega)]
    unfold bvs
    show _ = some (Value.int .u8 (l.getD i 0))
    rw [List.getElem?_map, List.getD_eq_getElem?_getD, List.getElem?_eq_getElem hi]
    rfl
  · exact ⟨0, ⟨⟨p, cap, hp, fun q => absurd q hn⟩, fun i hi => absurd hi (by omega), fun q => absurd q hn⟩, fun q => by omega⟩
theorem pck_len (n : Nat) (F : Nat → Td) (a : Gv) : (pck n F a).length ≤ 8192 := by
  unfold pck
  by_cases h : Gok n F a ∧ (pfl n F a).length ≤ 8192
  · rw [dc_t h, if_pos rfl]; exact h.2
  · rw [dc_f h]; simp
set_option maxHeartbeats 32000000 in
theorem law_ji {J : Jd} {p1 p2 : Option Addr} {c1 c2 n m N : Nat} {p q : Int} {A : Nat → Int} (en : J.n = n) (em : J.m = m) (ep : J.p = p) (eq : J.q = q) (hsp : Jb J → ∀ W v u, Jr J W v u → Calls Try.prog 6 #[.agg #[v, .int .i64 p, .int .i64 q, u]] W fun e w' => ∃ v' g, e = .returned v' ∧ An W w' v' N A g ∧ Kb 0 W w') (him : Jb J → ∀ W v u, Jr J W v u → Calls Try.prog 8 #[.agg #[v, .int .i64 p, .int .i64 q, u]] W fun e w' => ∃ v' g, e = .returned v' ∧ An W w' v' N A g ∧ Kb 0 W w') (hN : N ≤ 8192) (w : World) (ha : Jr J w (.slice p1 n c1) (.slice p2 m c2)) (hn : (n : Int) < 140737488355328) (hm : (m : Int) < 140737488355328) (hS : ∀ i, i < n → ((J.S i).size : Int) < 140737488355328) (hT : ∀ i, i < m → ((J.T i).x.size : Int) < 140737488355328) :
    Calls Try.prog 3 #[.agg #[.slice p1 n c1, .int .i64 p, .int .i64 q, .slice p2 m c2]] w fun e w' => e = .returned (.bool true) ∧ Kb 0 w w' := by
  obtain ⟨w0, hw0⟩ : ∃ w0, w0 = w.alloc (.cells #[.slice p1 n c1, .int .i64 p, .int .i64 q, .slice p2 m c2] 25) := ⟨_, rfl⟩
  have k0 : Kb 0 w w0 := by rw [hw0]; exact kb_alloc _ _ _
  have b0 : w0.heap[w.heap.size]? = some (.cells #[.slice p1 n c1, .int .i64 p, .int .i64 q, .slice p2 m c2] 25 (0, 0)) := by rw [hw0]; exact alloc_new _ _ _
  have z0 : w0.heap.size = w.heap.size + 1 := by rw [hw0]; exact World.size_alloc _ _
  subst en em ep eq
  have HS0 : Hid (Calls Try.prog 5 #[.agg #[.slice p1 J.n c1, .int .i64 J.p, .int .i64 J.q, .slice p2 J.m c2], .int .i64 1048576] w0 fun e w' => ∃ r : Int, e = .returned (.int .i64 r) ∧ (0 ≤ r → Jb J) ∧ -1 ≤ r ∧ r ≤ 1048576 ∧ Kb 0 w0 w') := sz_jour w0 (ha.keep k0) hn hm hS hT
  have HTO0 : Hid (Jb J → ∀ W v u, Jr J W v u → Calls Try.prog 7 #[.agg #[v, .int .i64 J.p, .int .i64 J.q, u]] W fun e w' => ∃ v' u', e = .returned (.agg #[v', .int .i64 J.p, .int .i64 J.q, u']) ∧ Jx J W.heap.size w' v' u' ∧ Kb 0 W w') := (fun hb W v u h => by
    obtain ⟨x1, y1, rfl, _⟩ := id h.1
    obtain ⟨x2, y2, rfl, _⟩ := id h.2
    exact to_jour W h hb : Jb J → ∀ W v u, _)
  have HEX0 : Hid (Jb J → ∀ W v u v' u', Jr J W v u → Jr J W v' u' → Calls Try.prog 10 #[.agg #[v, .int .i64 J.p, .int .i64 J.q, u], .agg #[v', .int .i64 J.p, .int .i64 J.q, u']] W fun e w' => e = .returned (.bool true) ∧ Kb 0 W w') := (fun hb W v u v' u' h h' => by
    obtain ⟨x1, y1, rfl, _⟩ := id h.1
    obtain ⟨x2, y2, rfl, _⟩ := id h.2
    obtain ⟨x3, y3, rfl, _⟩ := id h'.1
    obtain ⟨x4, y4, rfl, _⟩ := id h'.2
    exact eq_jour W h h' hb : Jb J → ∀ W v u v' u', _)
  have HMK0 : Hid (Jb J → ∃ KX : Int, 0 ≤ KX ∧ ∀ W x y x' y' L H g b, Jo J L H W (.slice x J.n y) (.slice x' J.m y') g b → H ≤ W.heap.size → Calls Try.prog 11 #[.agg #[.slice x J.n y, .int .i64 J.p, .int .i64 J.q, .slice x' J.m y'], .int .i64 1] W fun e w' => e = .returned (.int .i64 KX) ∧ Kq (fun q => L ≤ q ∧ q < H) W w') := (fun hb => ⟨1 + (J.n : Int) + 4 * (J.m : Int), by omega, fun W x y x' y' L H g b h hH => (mark_jour W h hH hb).mono (fun e w' ⟨h1, h2, _⟩ => ⟨h1, h2⟩)⟩ : Jb J → _)
  have HSH : Hid (∀ W v u, Jr J W v u → ∃ x y x' y', v = .slice x J.n y ∧ u = .slice x' J.m y') := (fun W v u h => by
    obtain ⟨x1, y1, h1, _⟩ := id h.1
    obtain ⟨x2, y2, h2, _⟩ := id h.2
    exact ⟨x1, y1, x2, y2, h1, h2⟩ : ∀ W v u, _)
  have HSP0 : Hid (Jb J → ∀ W v u, Jr J W v u → Calls Try.prog 6 #[.agg #[v, .int .i64 J.p, .int .i64 J.q, u]] W fun e w' => ∃ v' g, e = .returned v' ∧ An W w' v' N A g ∧ Kb 0 W w') := hsp
  have HIM0 : Hid (Jb J → ∀ W v u, Jr J W v u → Calls Try.prog 8 #[.agg #[v, .int .i64 J.p, .int .i64 J.q, u]] W fun e w' => ∃ v' g, e = .returned v' ∧ An W w' v' N A g ∧ Kb 0 W w') := him
  generalize hJn : J.n = n at *
  generalize hJm : J.m = m at *
  generalize hJp : J.p = p at *
  generalize hJq : J.q = q at *
  have HW0 : Hid (w0 = w.alloc (.cells #[.slice p1 n c1, .int .i64 p, .int .i64 q, .slice p2 m c2] 25)) := hw0
  have HBX : Hid (Kb 0 w w0 ∧ w0.heap[w.heap.size]? = some (.cells #[.slice p1 n c1, .int .i64 p, .int .i64 q, .slice p2 m c2] 25 (0, 0)) ∧ w0.heap.size = w.heap.size + 1 ∧ Jr J w (.slice p1 n c1) (.slice p2 m c2)) := (⟨k0, b0, z0, ha⟩ : _ ∧ _)
  have HEB : Hid (∀ W v v', RowV W v N (fun i => .int .u8 (A i)) → RowV W v' N (fun i => .int .u8 (A i)) → Calls Try.prog 9 #[v, v'] W fun e w' => e = .returned (.bool true) ∧ Kb 0 W w') := (fun W v v' h h' => (eq_byts W h h' (by omega)).mono (fun e w' ⟨he, hd⟩ => ⟨he, kb_drewN hd⟩) : ∀ W v v', _)
  have hNI : (N : Int) ≤ 8192 := by omega
  clear ha hn hm hS hT hsp him k0 b0 z0 hw0 hN hJn hJm hJp hJq
  go_enter Try.func3, Try.ntmps3
  go_wp2_with fail
  rw [← (show w0 = _ from HW0)]
  clear HW0
  refine (show Calls Try.prog 5 _ w0 _ from HS0).mono ?_
  rintro e w1 ⟨r, rfl, hr1, hr2, hr3, k1⟩
  clear HS0
  obtain ⟨k0, b0, z0, ha⟩ := (show Kb 0 w w0 ∧ w0.heap[w.heap.size]? = some (.cells #[.slice p1 n c1, .int .i64 p, .int .i64 q, .slice p2 m c2] 25 (0, 0)) ∧ w0.heap.size = w.heap.size + 1 ∧ Jr J w (.slice p1 n c1) (.slice p2 m c2) from HBX)
  have kw1 := k0.trans k1
  rcases Int.lt_or_le r 0 with h | h
  · have HB : Hid (Kb 0 w w1) := kw1
    clear k1 hr1 HSP0 HIM0 HTO0 HEX0 HMK0 HBX k0 b0 kw1 z0 ha HEB HSH
    go_wp2_with fail
    go_ret
    exact ⟨rfl, HB⟩
  have h' : ¬ r < 0 := by omega
  have hbd : Jb J := hr1 h
  have HSP := (show Jb J → _ from HSP0) hbd
  have HIM := (show Jb J → _ from HIM0) hbd
  obtain ⟨KX, hKX0', HMK⟩ := (show Jb J → _ from HMK0) hbd
  replace HSP : Hid (∀ W v u, Jr J W v u → Calls Try.prog 6 #[.agg #[v, .int .i64 p, .int .i64 q, u]] W fun e w' => ∃ v' g, e = .returned v' ∧ An W w' v' N A g ∧ Kb 0 W w') := HSP
  replace HIM : Hid (∀ W v u, Jr J W v u → Calls Try.prog 8 #[.agg #[v, .int .i64 p, .int .i64 q, u]] W fun e w' => ∃ v' g, e = .returned v' ∧ An W w' v' N A g ∧ Kb 0 W w') := HIM
  replace HMK : Hid (∀ W x y x' y' L H g b, Jo J L H W (.slice x n y) (.slice x' m y') g b → H ≤ W.heap.size → Calls Try.prog 11 #[.agg #[.slice x n y, .int .i64 p, .int .i64 q, .slice x' m y'], .int .i64 1] W fun e w' => e = .returned (.int .i64 KX) ∧ Kq (fun q => L ≤ q ∧ q < H) W w') := HMK
  have bx1 : w1.heap[w.heap.size]? = some (.cells #[.slice p1 n c1, .int .i64 p, .int .i64 q, .slice p2 m c2] 25 (0, 0)) := (k1.block _ (Nat.zero_le _) (by omega)).trans b0
  have HTO : Hid (∀ W, Kb 0 w1 W → Calls Try.prog 7 #[.agg #[.slice p1 n c1, .int .i64 p, .int .i64 q, .slice p2 m c2]] W fun e w' => ∃ v' u', e = .returned (.agg #[v', .int .i64 p, .int .i64 q, u']) ∧ Jx J W.heap.size w' v' u' ∧ Kb 0 W w') := (fun W k => (show Jb J → _ from HTO0) hbd W _ _ ((ha.keep kw1).keep k) : ∀ W, _)
  have HEX : Hid (∀ W v u v' u', Jr J W v u → Jr J W v' u' → Calls Try.prog 10 #[.agg #[v, .int .i64 p, .int .i64 q, u], .agg #[v', .int .i64 p, .int .i64 q, u']] W fun e w' => e = .returned (.bool true) ∧ Kb 0 W w') := (fun W v u v' u' h h' => (show Jb J → _ from HEX0) hbd W v u v' u' h h' : ∀ W v u v' u', _)
  have HBD : Hid (Jb J ∧ Kb 0 w w1 ∧ w1.heap[w.heap.size]? = some (.cells #[.slice p1 n c1, .int .i64 p, .int .i64 q, .slice p2 m c2] 25 (0, 0)) ∧ w.heap.size < w1.heap.size) := (⟨hbd, kw1, bx1, by have := k1.size; omega⟩ : _ ∧ _)
  have HBK : Hid (∀ W, Kb 0 w1 W → W.cell? ⟨w.heap.size, 0, none⟩ = some (.slice p1 n c1) ∧ W.cell? ⟨w.heap.size, 1, none⟩ = some (.int .i64 p) ∧ W.cell? ⟨w.heap.size, 2, none⟩ = some (.int .i64 q) ∧ W.cell? ⟨w.heap.size, 3, none⟩ = some (.slice p2 m c2)) := (fun W k => ⟨k.cell (cell_of bx1 rfl), k.cell (cell_of bx1 rfl), k.cell (cell_of bx1 rfl), k.cell (cell_of bx1 rfl)⟩ : ∀ W, _)
  obtain ⟨c0, c1x, c2x, c3⟩ := (show ∀ W, Kb 0 w1 W → _ from HBK) w1 (Kb.refl _ _)
  have HT1 := (show ∀ W, Kb 0 w1 W → Calls Try.prog 7 #[.agg #[.slice p1 n c1, .int .i64 p, .int .i64 q, .slice p2 m c2]] W fun e w' => ∃ v' u', e = .returned (.agg #[v', .int .i64 p, .int .i64 q, u']) ∧ Jx J W.heap.size w' v' u' ∧ Kb 0 W w' from HTO) w1 (Kb.refl _ _)
  clear hr1 k1 HBX k0 b0 kw1 ha hbd bx1 z0 HTO0 HEX0 HMK0 HSP0 HIM0
  go_wp2_with fail
  refine HT1.mono ?_
  rintro e w2 ⟨v1, u1, rfl, r1, k2⟩
  clear HT1 c0 c1x c2x c3
  have HS2 := (show ∀ W v u, Jr J W v u → Calls Try.prog 6 #[.agg #[v, .int .i64 p, .int .i64 q, u]] W fun e w' => ∃ v' g, e = .returned v' ∧ An W w' v' N A g ∧ Kb 0 W w' from HSP) w2 v1 u1 r1.1
  obtain ⟨x1, y1, x2, y2, rfl, rfl⟩ := (show ∀ W v u, _ from HSH) _ _ _ r1.1
  have HK2 : Hid (Kb 0 w1 w2) := k2
  clear r1 k2
  go_wp2_with fail
  refine HS2.mono ?_
  rintro e w3 ⟨vw, gw, rfl, aw, k3⟩
  clear HS2 HSP
  obtain ⟨pw, qw, rfl, -⟩ := aw.1.sl
  have k13 : Kb 0 w1 w3 := (show Kb 0 w1 w2 from HK2).trans k3
  have HK3 : Hid (Kb 0 w1 w3 ∧ OwnR w3 (.slice pw N qw) gw N (fun i => .int .u8 (A i)) ∧ (N ≠ 0 → gw < w3.heap.size)) := (⟨k13, aw.1, fun q => (aw.2 q).2⟩ : _ ∧ _)
  obtain ⟨c0, c1x, c2x, c3⟩ := (show ∀ W, Kb 0 w1 W → _ from HBK) w3 k13
  have HT2 := (show ∀ W, Kb 0 w1 W → Calls Try.prog 7 #[.agg #[.slice p1 n c1, .int .i64 p, .int .i64 q, .slice p2 m c2]] W fun e w' => ∃ v' u', e = .returned (.agg #[v', .int .i64 p, .int .i64 q, u']) ∧ Jx J W.heap.size w' v' u' ∧ Kb 0 W w' from HTO) w3 k13
  have HK13b : Hid (Kb 0 w1 w3) := k13
  clear aw k3 k13 HK2
  go_wp2_with fail
  refine HT2.mono ?_
  rintro e w5 ⟨vx, ux, rfl, rx5, k5⟩
  clear HT2 c0 c1x c2x c3
  obtain ⟨px, qx, pxu, qxu, rfl, rfl⟩ := (show ∀ W v u, _ from HSH) _ _ _ rx5.1
  obtain ⟨w6, hw6⟩ : ∃ w6, w6 = w5.alloc (.cells #[.slice px n qx, .int .i64 p, .int .i64 q, .slice pxu m qxu] 31) := ⟨_, rfl⟩
  have k56 : Kb 0 w5 w6 := by rw [hw6]; exact kb_alloc _ _ _
  have b6 : w6.heap[w5.heap.size]? = some (.cells #[.slice px n qx, .int .i64 p, .int .i64 q, .slice pxu m qxu] 31 (0, 0)) := by rw [hw6]; exact alloc_new _ _ _
  have z6 : w6.heap.size = w5.heap.size + 1 := by rw [hw6]; exact World.size_alloc _ _
  obtain ⟨P5, hP5⟩ : ∃ P5, P5 = w5.heap.size := ⟨_, rfl⟩
  obtain ⟨gx, bx, ox⟩ := rx5.2
  rw [← hP5] at b6 z6 ox
  have rx6 : Jr J w6 (.slice px n qx) (.slice pxu m qxu) := rx5.1.keep k56
  have HK6 : Hid (Kb 0 w3 w6 ∧ w6.heap[P5]? = some (.cells #[.slice px n qx, .int .i64 p, .int .i64 q, .slice pxu m qxu] 31 (0, 0)) ∧ w6.heap.size = P5 + 1 ∧ w3.heap.size ≤ P5 ∧ Jr J w6 (.slice px n qx) (.slice pxu m qxu) ∧ Jo J w3.heap.size P5 w6 (.slice px n qx) (.slice pxu m qxu) gx bx) := (⟨k5.trans k56, b6, z6, by rw [hP5]; exact k5.size, rx6, ox.block (fun q _ h2 => k56.block q (Nat.zero_le _) (by omega))⟩ : _ ∧ _)
  have x0 : w6.cell? ⟨P5, 0, none⟩ = some (.slice px n qx) := cell_of b6 rfl
  have x1 : w6.cell? ⟨P5, 1, none⟩ = some (.int .i64 p) := cell_of b6 rfl
  have x2 : w6.cell? ⟨P5, 2, none⟩ = some (.int .i64 q) := cell_of b6 rfl
  have x3 : w6.cell? ⟨P5, 3, none⟩ = some (.slice pxu m qxu) := cell_of b6 rfl
  have HI6 := (show ∀ W v u, Jr J W v u → Calls Try.prog 8 #[.agg #[v, .int .i64 p, .int .i64 q, u]] W fun e w' => ∃ v' g, e = .returned v' ∧ An W w' v' N A g ∧ Kb 0 W w' from HIM) w6 _ _ rx6
  have HW6 : Hid (w6 = w5.alloc (.cells #[.slice px n qx, .int .i64 p, .int .i64 q, .slice pxu m qxu] 31) ∧ P5 = w5.heap.size) := (⟨hw6, hP5⟩ : _ ∧ _)
  clear rx5 k5 k56 b6 z6 rx6 ox hw6 hP5
  go_upto_region 7 with fail
  rw [← (show _ ∧ _ from HW6).1, ← (show _ ∧ _ from HW6).2]
  clear HW6
  go_wp2_with fail
  refine HI6.mono ?_
  rintro e w7 ⟨vg, gg, rfl, ag, k7⟩
  clear HI6 x0 x1 x2 x3
  obtain ⟨pg, qg, rfl, -⟩ := ag.1.sl
  obtain ⟨k13, ow3, hw3⟩ := (show Kb 0 w1 w3 ∧ OwnR w3 (.slice pw N qw) gw N (fun i => .int .u8 (A i)) ∧ (N ≠ 0 → gw < w3.heap.size) from HK3)
  obtain ⟨k36, b5, z6, h36, rx6, ox6⟩ := (show Kb 0 w3 w6 ∧ w6.heap[P5]? = some (.cells #[.slice px n qx, .int .i64 p, .int .i64 q, .slice pxu m qxu] 31 (0, 0)) ∧ w6.heap.size = P5 + 1 ∧ w3.heap.size ≤ P5 ∧ Jr J w6 (.slice px n qx) (.slice pxu m qxu) ∧ Jo J w3.heap.size P5 w6 (.slice px n qx) (.slice pxu m qxu) gx bx from HK6)
  have k37 := k36.trans k7
  have ow7 : OwnR w7 (.slice pw N qw) gw N (fun i => .int .u8 (A i)) := ow3.kb (fun q => k37.block _ (Nat.zero_le _) (hw3 q))
  have HE8 := (show ∀ W v v', RowV W v N (fun i => .int .u8 (A i)) → RowV W v' N (fun i => .int .u8 (A i)) → _ from HEB) w7 _ _ ag.1.row ow7.row
  have b57 := (k7.block _ (Nat.zero_le _) (by omega)).trans b5
  have HK7 : Hid (Kb 0 w1 w7 ∧ w7.heap[P5]? = some (.cells #[.slice px n qx, .int .i64 p, .int .i64 q, .slice pxu m qxu] 31 (0, 0)) ∧ P5 < w7.heap.size ∧ w3.heap.size ≤ P5 ∧ Jr J w7 (.slice px n qx) (.slice pxu m qxu) ∧ Jo J w3.heap.size P5 w7 (.slice px n qx) (.slice pxu m qxu) gx bx ∧ OwnR w7 (.slice pw N qw) gw N (fun i => .int .u8 (A i)) ∧ (N ≠ 0 → gw < w3.heap.size) ∧ OwnR w7 (.slice pg N qg) gg N (fun i => .int .u8 (A i)) ∧ (N ≠ 0 → P5 < gg ∧ gg < w7.heap.size) ∧ Kb 0 w3 w7 ∧ Kb 0 w1 w3) := (⟨k13.trans k37, b57, by have := k7.size; omega, h36, rx6.keep k7, ox6.block (fun q _ h2 => k7.block q (Nat.zero_le _) (by omega)), ow7, hw3, ag.1, fun q => ⟨by have := (ag.2 q).1; omega, (ag.2 q).2⟩, k37, k13⟩ : _ ∧ _)
  clear k13 ow3 hw3 k36 b5 z6 h36 rx6 ox6 k37 ow7 b57 ag k7 HK3 HK6
  go_wp2_with fail
  refine HE8.mono ?_
  rintro e w8 ⟨rfl, k8⟩
  clear HE8
  obtain ⟨k17, b57, hp5, h36, rx7, ox7, ow7, hgw, og7, hgg, k37, k13⟩ := (show Kb 0 w1 w7 ∧ w7.heap[P5]? = some (.cells #[.slice px n qx, .int .i64 p, .int .i64 q, .slice pxu m qxu] 31 (0, 0)) ∧ P5 < w7.heap.size ∧ w3.heap.size ≤ P5 ∧ Jr J w7 (.slice px n qx) (.slice pxu m qxu) ∧ Jo J w3.heap.size P5 w7 (.slice px n qx) (.slice pxu m qxu) gx bx ∧ OwnR w7 (.slice pw N qw) gw N (fun i => .int .u8 (A i)) ∧ (N ≠ 0 → gw < w3.heap.size) ∧ OwnR w7 (.slice pg N qg) gg N (fun i => .int .u8 (A i)) ∧ (N ≠ 0 → P5 < gg ∧ gg < w7.heap.size) ∧ Kb 0 w3 w7 ∧ Kb 0 w1 w3 from HK7)
  have HCX : Hid (∀ W, Kb 0 w7 W → (W.cell? ⟨P5, 0, none⟩ = some (.slice px n qx) ∧ W.cell? ⟨P5, 1, none⟩ = some (.int .i64 p) ∧ W.cell? ⟨P5, 2, none⟩ = some (.int .i64 q) ∧ W.cell? ⟨P5, 3, none⟩ = some (.slice pxu m qxu)) ∧ W.cell? ⟨w.heap.size, 0, none⟩ = some (.slice p1 n c1) ∧ W.cell? ⟨w.heap.size, 1, none⟩ = some (.int .i64 p) ∧ W.cell? ⟨w.heap.size, 2, none⟩ = some (.int .i64 q) ∧ W.cell? ⟨w.heap.size, 3, none⟩ = some (.slice p2 m c2)) := (fun W k => ⟨⟨k.cell (cell_of b57 rfl), k.cell (cell_of b57 rfl), k.cell (cell_of b57 rfl), k.cell (cell_of b57 rfl)⟩, (show ∀ W, Kb 0 w1 W → _ from HBK) W (k17.trans k)⟩ : ∀ W, _)
  have HTW : Hid (∀ W, Kb 0 w7 W → Calls Try.prog 7 #[.agg #[.slice p1 n c1, .int .i64 p, .int .i64 q, .slice p2 m c2]] W fun e w' => ∃ v' u', e = .returned (.agg #[v', .int .i64 p, .int .i64 q, u']) ∧ Jx J W.heap.size w' v' u' ∧ Kb 0 W w') := (fun W k => (show ∀ W, Kb 0 w1 W → Calls Try.prog 7 #[.agg #[.slice p1 n c1, .int .i64 p, .int .i64 q, .slice p2 m c2]] W fun e w' => ∃ v' u', e = .returned (.agg #[v', .int .i64 p, .int .i64 q, u']) ∧ Jx J W.heap.size w' v' u' ∧ Kb 0 W w' from HTO) W (k17.trans k) : ∀ W, _)
  have HEW : Hid (∀ W v2 u2, Kb 0 w7 W → Jr J W v2 u2 → Calls Try.prog 10 #[.agg #[.slice px n qx, .int .i64 p, .int .i64 q, .slice pxu m qxu], .agg #[v2, .int .i64 p, .int .i64 q, u2]] W fun e w' => e = .returned (.bool true) ∧ Kb 0 W w') := (fun W v2 u2 k h2 => (show ∀ W v u v' u', Jr J W v u → Jr J W v' u' → _ from HEX) W _ _ _ _ (rx7.keep k) h2 : ∀ W v2 u2, _)
  obtain ⟨⟨x0, x1, x2, x3⟩, c0, c1x, c2x, c3⟩ := (show ∀ W, Kb 0 w7 W → _ from HCX) w8 k8
  have HS9 : Hid ((w8.cell? ⟨P5, 0, none⟩ = some (.slice px n qx) ∧ w8.cell? ⟨P5, 1, none⟩ = some (.int .i64 p) ∧ w8.cell? ⟨P5, 2, none⟩ = some (.int .i64 q) ∧ w8.cell? ⟨P5, 3, none⟩ = some (.slice pxu m qxu)) ∧ w8.cell? ⟨w.heap.size, 0, none⟩ = some (.slice p1 n c1) ∧ w8.cell? ⟨w.heap.size, 1, none⟩ = some (.int .i64 p) ∧ w8.cell? ⟨w.heap.size, 2, none⟩ = some (.int .i64 q) ∧ w8.cell? ⟨w.heap.size, 3, none⟩ = some (.slice p2 m c2)) := (show ∀ W, Kb 0 w7 W → _ from HCX) w8 k8
  have HK8 : Hid (Kb 0 w7 w8) := k8
  clear k17 b57 hp5 h36 rx7 ox7 ow7 hgw og7 hgg k37 k13 k8
  go_wp2_with fail
  go_region_held3 (fun W' => (W'.cell? ⟨P5, 0, none⟩ = some (.slice px n qx) ∧ W'.cell? ⟨P5, 1, none⟩ = some (.int .i64 p) ∧ W'.cell? ⟨P5, 2, none⟩ = some (.int .i64 q) ∧ W'.cell? ⟨P5, 3, none⟩ = some (.slice pxu m qxu)) ∧ W'.cell? ⟨w.heap.size, 0, none⟩ = some (.slice p1 n c1) ∧ W'.cell? ⟨w.heap.size, 1, none⟩ = some (.int .i64 p) ∧ W'.cell? ⟨w.heap.size, 2, none⟩ = some (.int .i64 q) ∧ W'.cell? ⟨w.heap.size, 3, none⟩ = some (.slice p2 m c2)) (first | exact HS9 | exact s10 | exact s11)
    ((first
      | (go_at_call 7; refine ((show ∀ W, Kb 0 w7 W → _ from HTW) _ (by exact Kb.drewN (show Kb 0 w7 w8 from HK8) 1)).mono ?_; rintro e w10 ⟨v2, u2, rfl, o2, k10⟩; have K10 : Kb 0 w7 w10 := (show Kb 0 w7 w8 from HK8).trans ⟨k10.os, k10.output, k10.size, k10.block⟩; have s10 := (show ∀ W, Kb 0 w7 W → _ from HCX) w10 K10)
      | (go_at_call 10; refine ((show ∀ W v2 u2, _ from HEW) _ _ _ K10 o2.1).mono ?_; rintro e w11 ⟨rfl, k11⟩; have K11 : Kb 0 w7 w11 := K10.trans k11; have s11 := (show ∀ W, Kb 0 w7 W → _ from HCX) w11 K11)))
  clear x0 x1 x2 x3 c0 c1x c2x c3 HCX HTW HEW o2 k10 K10 s10 k11 s11 HS9 HK8 HEX
  obtain ⟨k17, b57, hp5, h36, rx7, ox7, ow7, hgw, og7, hgg, k37, k13⟩ := (show Kb 0 w1 w7 ∧ w7.heap[P5]? = some (.cells #[.slice px n qx, .int .i64 p, .int .i64 q, .slice pxu m qxu] 31 (0, 0)) ∧ P5 < w7.heap.size ∧ w3.heap.size ≤ P5 ∧ Jr J w7 (.slice px n qx) (.slice pxu m qxu) ∧ Jo J w3.heap.size P5 w7 (.slice px n qx) (.slice pxu m qxu) gx bx ∧ OwnR w7 (.slice pw N qw) gw N (fun i => .int .u8 (A i)) ∧ (N ≠ 0 → gw < w3.heap.size) ∧ OwnR w7 (.slice pg N qg) gg N (fun i => .int .u8 (A i)) ∧ (N ≠ 0 → P5 < gg ∧ gg < w7.heap.size) ∧ Kb 0 w3 w7 ∧ Kb 0 w1 w3 from HK7)
  obtain ⟨hbd, kw1, bx1, zw1⟩ := (show Jb J ∧ Kb 0 w w1 ∧ w1.heap[w.heap.size]? = some (.cells #[.slice p1 n c1, .int .i64 p, .int .i64 q, .slice p2 m c2] 25 (0, 0)) ∧ w.heap.size < w1.heap.size from HBD)
  have z11 := K11.size
  have b5b : w11.heap[P5]? = some (.cells #[.slice px n qx, .int .i64 p, .int .i64 q, .slice pxu m qxu] 31 (0, 0)) := (K11.block _ (Nat.zero_le _) hp5).trans b57
  have x0 : w11.cell? ⟨P5, 0, none⟩ = some (.slice px n qx) := cell_of b5b rfl
  have x1 : w11.cell? ⟨P5, 1, none⟩ = some (.int .i64 p) := cell_of b5b rfl
  have x2 : w11.cell? ⟨P5, 2, none⟩ = some (.int .i64 q) := cell_of b5b rfl
  have x3 : w11.cell? ⟨P5, 3, none⟩ = some (.slice pxu m qxu) := cell_of b5b rfl
  have ox11 := ox7.block (W' := w11) (fun q _ hq => K11.block q (Nat.zero_le _) (by omega))
  have HM := (show ∀ W x y x' y' L H g b, _ from HMK) w11 _ _ _ _ _ _ _ _ ox11 (by omega)
  have hKX0 : ¬ KX < 0 := by omega
  have HK11 : Hid (Kb 0 w7 w11) := K11
  clear k17 b57 hp5 h36 rx7 ox7 ow7 hgw og7 hgg k37 k13 hbd kw1 bx1 zw1 z11 b5b ox11 K11
  go_wp2_with fail
  refine HM.mono ?_
  rintro e w12 ⟨rfl, kq12⟩
  clear HM x0 x1 x2 x3
  obtain ⟨k17, b57, hp5, h36, rx7, ox7, ow7, hgw, og7, hgg, k37, k13⟩ := (show Kb 0 w1 w7 ∧ w7.heap[P5]? = some (.cells #[.slice px n qx, .int .i64 p, .int .i64 q, .slice pxu m qxu] 31 (0, 0)) ∧ P5 < w7.heap.size ∧ w3.heap.size ≤ P5 ∧ Jr J w7 (.slice px n qx) (.slice pxu m qxu) ∧ Jo J w3.heap.size P5 w7 (.slice px n qx) (.slice pxu m qxu) gx bx ∧ OwnR w7 (.slice pw N qw) gw N (fun i => .int .u8 (A i)) ∧ (N ≠ 0 → gw < w3.heap.size) ∧ OwnR w7 (.slice pg N qg) gg N (fun i => .int .u8 (A i)) ∧ (N ≠ 0 → P5 < gg ∧ gg < w7.heap.size) ∧ Kb 0 w3 w7 ∧ Kb 0 w1 w3 from HK7)
  have K11 := (show Kb 0 w7 w11 from HK11)
  have z11 := K11.size
  have z12 := kq12.size
  have hz37 := k37.size
  have k3c : Kb 0 w3 w12 := ⟨kq12.os.trans (k37.trans K11).os, kq12.output.trans (k37.trans K11).output, Nat.le_trans (k37.trans K11).size z12, fun q _ hq => (kq12.block q (by omega) (by omega)).trans ((k37.trans K11).block q (Nat.zero_le _) hq)⟩
  have ow12 : OwnR w12 (.slice pw N qw) gw N (fun i => .int .u8 (A i)) := ow7.kb (fun q => by have := hgw q; exact (kq12.block gw (by omega) (by omega)).trans (K11.block gw (Nat.zero_le _) (by omega)))
  have og12 : OwnR w12 (.slice pg N qg) gg N (fun i => .int .u8 (A i)) := og7.kb (fun q => by have := hgg q; exact (kq12.block gg (by omega) (by omega)).trans (K11.block gg (Nat.zero_le _) (by omega)))
  have HE12 := (show ∀ W v v', RowV W v N (fun i => .int .u8 (A i)) → RowV W v' N (fun i => .int .u8 (A i)) → _ from HEB) w12 _ _ og12.row ow12.row
  have HK12 : Hid (Kb 0 w1 w12 ∧ Kb 0 w3 w12 ∧ OwnR w12 (.slice pw N qw) gw N (fun i => .int .u8 (A i)) ∧ OwnR w12 (.slice pg N qg) gg N (fun i => .int .u8 (A i)) ∧ (N ≠ 0 → gw < gg ∧ gg < w12.heap.size ∧ w3.heap.size ≤ gg)) := (⟨k13.trans k3c, k3c, ow12, og12, fun q => by have := hgw q; have := hgg q; omega⟩ : _ ∧ _)
  clear k17 b57 hp5 h36 rx7 ox7 ow7 hgw og7 hgg k37 k13 K11 z11 z12 hz37 k3c ow12 og12 kq12 HK11 HK7
  go_wp2_with fail
  refine HE12.mono ?_
  rintro e w13 ⟨rfl, k13⟩
  clear HE12
  obtain ⟨k1c, k3c, ow12, og12, hgg⟩ := (show Kb 0 w1 w12 ∧ Kb 0 w3 w12 ∧ OwnR w12 (.slice pw N qw) gw N (fun i => .int .u8 (A i)) ∧ OwnR w12 (.slice pg N qg) gg N (fun i => .int .u8 (A i)) ∧ (N ≠ 0 → gw < gg ∧ gg < w12.heap.size ∧ w3.heap.size ≤ gg) from HK12)
  have z13 := k13.size
  have ow13 := ow12.kb (W' := w13) (fun q => k13.block gw (Nat.zero_le _) (by have := hgg q; omega))
  have og13 := og12.kb (W' := w13) (fun q => k13.block gg (Nat.zero_le _) (by have := hgg q; omega))
  have HM := mark_byts w13 1 og13 (by omega) (by omega) (by omega)
  obtain ⟨KG, hKG⟩ : ∃ KG : Int, KG = 1 + (N : Int) := ⟨_, rfl⟩
  rw [← hKG] at HM
  have HK13 : Hid (Kb 0 w1 w13 ∧ Kb 0 w3 w13 ∧ OwnR w13 (.slice pw N qw) gw N (fun i => .int .u8 (A i)) ∧ (N ≠ 0 → gw < gg ∧ gg < w13.heap.size ∧ w3.heap.size ≤ gg)) := (⟨k1c.trans k13, k3c.trans k13, ow13, fun q => by have := hgg q; omega⟩ : _ ∧ _)
  have HKG : Hid (KG = 1 + (N : Int)) := hKG
  have hKG0 : ¬ KG < 0 := by omega
  clear k1c k3c ow12 og12 hgg z13 ow13 og13 k13 HK12 hKG
  go_wp2_with fail
  refine HM.mono ?_
  rintro e w14 ⟨rfl, kq14, om14⟩
  clear HM
  obtain ⟨k1d, k3d, ow13, hgg⟩ := (show Kb 0 w1 w13 ∧ Kb 0 w3 w13 ∧ OwnR w13 (.slice pw N qw) gw N (fun i => .int .u8 (A i)) ∧ (N ≠ 0 → gw < gg ∧ gg < w13.heap.size ∧ w3.heap.size ≤ gg) from HK13)
  have z14 := kq14.size
  have hz3 := k3d.size
  have k3e : Kb 0 w3 w14 := ⟨kq14.os.trans k3d.os, kq14.output.trans k3d.output, Nat.le_trans k3d.size z14, fun q _ hq => (kq14.block q (by omega) (fun z => by have := hgg (by omega); omega)).trans (k3d.block q (Nat.zero_le _) hq)⟩
  have ow14 : OwnR w14 (.slice pw N qw) gw N (fun i => .int .u8 (A i)) := ow13.kb (fun q => by have := hgg q; exact kq14.block gw (by omega) (fun z => by omega))
  have HQ := held_byts w14 1 om14.row (by omega) (by omega) (by omega)
  rw [← (show KG = _ from HKG)] at HQ
  have HK14 : Hid (Kb 0 w3 w14 ∧ OwnR w14 (.slice pw N qw) gw N (fun i => .int .u8 (A i)) ∧ OwnR w14 (.slice pg N qg) gg N (fun i => .int .u8 ((1 + (i : Int)) % 256)) ∧ (N ≠ 0 → gw < gg ∧ gg < w14.heap.size)) := (⟨k3e, ow14, om14, fun q => by have := hgg q; omega⟩ : _ ∧ _)
  clear k1d k3d ow13 hgg z14 hz3 k3e ow14 kq14 om14 HK13
  go_wp2_with fail
  refine HQ.mono ?_
  rintro e w15 ⟨rfl, hd15⟩
  clear HQ
  have k15 : Kb 0 w14 w15 := kb_drewN hd15
  obtain ⟨k3e, ow14, om14, hgg⟩ := (show Kb 0 w3 w14 ∧ OwnR w14 (.slice pw N qw) gw N (fun i => .int .u8 (A i)) ∧ OwnR w14 (.slice pg N qg) gg N (fun i => .int .u8 ((1 + (i : Int)) % 256)) ∧ (N ≠ 0 → gw < gg ∧ gg < w14.heap.size) from HK14)
  have k13 := (show Kb 0 w1 w3 from HK13b)
  have k115 := (k13.trans k3e).trans k15
  obtain ⟨c0, c1x, c2x, c3⟩ := (show ∀ W, Kb 0 w1 W → _ from HBK) w15 k115
  have HT3 := (show ∀ W, Kb 0 w1 W → Calls Try.prog 7 #[.agg #[.slice p1 n c1, .int .i64 p, .int .i64 q, .slice p2 m c2]] W fun e w' => ∃ v' u', e = .returned (.agg #[v', .int .i64 p, .int .i64 q, u']) ∧ Jx J W.heap.size w' v' u' ∧ Kb 0 W w' from HTO) w15 k115
  have hne : (KG != KG) = false := by simp
  have HK15 : Hid (Kb 0 w14 w15 ∧ Kb 0 w1 w15) := (⟨k15, k115⟩ : _ ∧ _)
  clear k3e ow14 om14 hgg k13 k115 k15 hd15
  go_wp2_with fail
  refine HT3.mono ?_
  rintro e w16 ⟨v3, u3, rfl, r3, k16⟩
  clear HT3 c0 c1x c2x c3
  have HI16 := (show ∀ W v u, Jr J W v u → Calls Try.prog 8 #[.agg #[v, .int .i64 p, .int .i64 q, u]] W fun e w' => ∃ v' g, e = .returned v' ∧ An W w' v' N A g ∧ Kb 0 W w' from HIM) w16 _ _ r3.1
  obtain ⟨x3, y3, x4, y4, rfl, rfl⟩ := (show ∀ W v u, _ from HSH) _ _ _ r3.1
  have HK16 : Hid (Kb 0 w14 w16 ∧ Kb 0 w1 w16) := (⟨(show Kb 0 w14 w15 ∧ Kb 0 w1 w15 from HK15).1.trans k16, (show Kb 0 w14 w15 ∧ Kb 0 w1 w15 from HK15).2.trans k16⟩ : _ ∧ _)
  clear r3 k16 HK15
  go_wp2_with fail
  refine HI16.mono ?_
  rintro e w17 ⟨vh, gh, rfl, ah, k17⟩
  clear HI16 HIM
  obtain ⟨ph, qh, rfl, -⟩ := ah.1.sl
  obtain ⟨k1416, k116⟩ := (show Kb 0 w14 w16 ∧ Kb 0 w1 w16 from HK16)
  obtain ⟨k3e, ow14, om14, hgg⟩ := (show Kb 0 w3 w14 ∧ OwnR w14 (.slice pw N qw) gw N (fun i => .int .u8 (A i)) ∧ OwnR w14 (.slice pg N qg) gg N (fun i => .int .u8 ((1 + (i : Int)) % 256)) ∧ (N ≠ 0 → gw < gg ∧ gg < w14.heap.size) from HK14)
  have k1417 := k1416.trans k17
  have ow17 := ow14.kb (W' := w17) (fun q => k1417.block gw (Nat.zero_le _) (by have := hgg q; omega))
  have om17 := om14.kb (W' := w17) (fun q => k1417.block gg (Nat.zero_le _) (by have := hgg q; omega))
  have HE17 := (show ∀ W v v', RowV W v N (fun i => .int .u8 (A i)) → RowV W v' N (fun i => .int .u8 (A i)) → _ from HEB) w17 _ _ ah.1.row ow17.row
  have HK17 : Hid (Kb 0 w1 w17 ∧ OwnR w17 (.slice pg N qg) gg N (fun i => .int .u8 ((1 + (i : Int)) % 256)) ∧ (N ≠ 0 → gg < w17.heap.size)) := (⟨k116.trans k17, om17, fun q => by have := hgg q; have := k1417.size; omega⟩ : _ ∧ _)
  clear k1416 k116 k3e ow14 om14 hgg k1417 ow17 om17 ah k17 HK16
  go_wp2_with fail
  refine HE17.mono ?_
  rintro e w18 ⟨rfl, k18⟩
  clear HE17 HEB
  obtain ⟨k117, om17, hgg⟩ := (show Kb 0 w1 w17 ∧ OwnR w17 (.slice pg N qg) gg N (fun i => .int .u8 ((1 + (i : Int)) % 256)) ∧ (N ≠ 0 → gg < w17.heap.size) from HK17)
  have om18 := om17.kb (W' := w18) (fun q => k18.block gg (Nat.zero_le _) (hgg q))
  have HQ := held_byts w18 1 om18.row (by omega) (by omega) (by omega)
  rw [← (show KG = _ from HKG)] at HQ
  have HK18 : Hid (Kb 0 w w18) := (show Jb J ∧ Kb 0 w w1 ∧ _ from HBD).2.1.trans (k117.trans k18)
  clear k117 om17 hgg k18 om18 HK17 HK14
  go_wp2_with fail
  refine HQ.mono ?_
  rintro e w19 ⟨rfl, hd19⟩
  have HK19 : Hid (Kb 0 w w19) := (show Kb 0 w w18 from HK18).trans (kb_drewN hd19)
  clear HQ HK18 hd19
  go_wp2_with fail
  go_ret
  exact ⟨rfl, HK19⟩
end Go.Proofs.Ytdkmnggdelchkaa.Fo
