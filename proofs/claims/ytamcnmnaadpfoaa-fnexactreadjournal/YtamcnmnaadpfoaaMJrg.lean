import Derived.Test.YtamcnmnaadpfoaaMJre
import Derived.Test.YtamcnmnaadpfoaaMJrb
namespace Go.Proofs.Ytamcnmnaadpfoaa.Fo
open Go.ChangeShapes Go.WideShapes Go.ChangeAt Go.RowKit
set_option linter.unusedVariables false
set_option maxRecDepth 100000
/-- the answer of ReadJournal in memory -/
def RjM (M : List UInt8) (W : World) (e : Ending) (w' : World) : Prop := ∃ (ok : Bool) (J : Jd) (v u : Value), e = .returned (.agg #[.bool ok, v, .int .i64 J.p, .int .i64 J.q, u]) ∧ RjA M ok J ∧ Jx J W.heap.size w' v u ∧ Kb 0 W w'
theorem jx_nil {w W : World} (hz : w.heap.size + 2 ≤ W.heap.size) : Jx j0 w.heap.size W (.slice none 0 0) (.slice none 0 0) := jx_of (J := j0) (World.ownsRow_nil _ _ _ _) (World.ownsRow_nil _ _ _ _) hz
theorem zat_x {ys : List (Int × List Gv)} {a : Gv} (hg : Gok ys.length (TF ys) a) (k j : Nat) : (zat (TF ys) k j).x.size ≤ 4000 := by
  unfold zat
  split
  · rename_i hj
    rcases Nat.lt_or_ge k ys.length with h | h
    · rcases (hg.2.2 k h).2 j hj with q | q | q | q
      · rw [q.2.2.1]; exact Nat.zero_le _
      · rw [q.2.1]; exact Nat.zero_le _
      · exact q.2.2.2
      · rw [q.2.2.1]; exact Nat.zero_le _
    · have hz : TF ys k = ⟨0, 0, fun i => ([] : List Gv).getD i default⟩ := by
        unfold TF
        rw [List.getD_eq_getElem?_getD, List.getElem?_eq_none h]
        rfl
      rw [hz] at hj
      exact absurd hj (Nat.not_lt_zero _)
  · exact Nat.zero_le _
theorem tf_c {ys : List (Int × List Gv)} {a : Gv} (hg : Gok ys.length (TF ys) a) (k : Nat) : (TF ys k).c ≤ 300 := by
  rcases Nat.lt_or_ge k ys.length with h | h
  · exact (hg.2.2 k h).1.2.2
  · have hz : TF ys k = ⟨0, 0, fun i => ([] : List Gv).getD i default⟩ := by
      unfold TF
      rw [List.getD_eq_getElem?_getD, List.getElem?_eq_none h]
      rfl
    rw [hz]
    exact Nat.zero_le _
/-- five cells stored into a block that is known -/
theorem five_set {V : World} {B : Nat} {T : TypeId} {c0 c1 c2 c3 c4 : Value} (x0 x1 x2 x3 x4 : Value) (bq : V.heap[B]? = some (.cells #[c0, c1, c2, c3, c4] T (0, 0))) : ∃ WF, WF = (((((V.setCell ⟨B, 0, none⟩ x0).setCell ⟨B, 1, none⟩ x1).setCell ⟨B, 2, none⟩ x2).setCell ⟨B, 3, none⟩ x3).setCell ⟨B, 4, none⟩ x4) ∧ WF.heap[B]? = some (.cells #[x0, x1, x2, x3, x4] T (0, 0)) ∧ (∀ g, g ≠ B → WF.heap[g]? = V.heap[g]?) ∧ WF.heap.size = V.heap.size ∧ WF.os = V.os ∧ WF.output = V.output := by
  have t1 : (V.setCell ⟨B, 0, none⟩ x0).heap[B]? = some (.cells #[x0, c1, c2, c3, c4] T (0, 0)) := set_known _ bq
  have t2 : ((V.setCell ⟨B, 0, none⟩ x0).setCell ⟨B, 1, none⟩ x1).heap[B]? = some (.cells #[x0, x1, c2, c3, c4] T (0, 0)) := set_known _ t1
  have t3 : (((V.setCell ⟨B, 0, none⟩ x0).setCell ⟨B, 1, none⟩ x1).setCell ⟨B, 2, none⟩ x2).heap[B]? = some (.cells #[x0, x1, x2, c3, c4] T (0, 0)) := set_known _ t2
  have t4 : ((((V.setCell ⟨B, 0, none⟩ x0).setCell ⟨B, 1, none⟩ x1).setCell ⟨B, 2, none⟩ x2).setCell ⟨B, 3, none⟩ x3).heap[B]? = some (.cells #[x0, x1, x2, x3, c4] T (0, 0)) := set_known _ t3
  obtain ⟨WF, hWF⟩ : ∃ WF, WF = (((((V.setCell ⟨B, 0, none⟩ x0).setCell ⟨B, 1, none⟩ x1).setCell ⟨B, 2, none⟩ x2).setCell ⟨B, 3, none⟩ x3).setCell ⟨B, 4, none⟩ x4) := ⟨_, rfl⟩
  have bF : WF.heap[B]? = some (.cells #[x0, x1, x2, x3, x4] T (0, 0)) := by rw [hWF]; exact set_known _ t4
  have kz : Kz B V WF := by rw [hWF]; exact (((((Kz.refl B V).set 0 x0).set 1 x1).set 2 x2).set 3 x3).set 4 x4
  exact ⟨WF, hWF, bF, kz.block, kz.size, kz.os, kz.output⟩
theorem jx_far {J : Jd} {w W WF : World} {v u : Value} {B L : Nat} (h : Jx J L W v u) (hL : w.heap.size ≤ L) (hB : B < L) (hr : ∀ g, g ≠ B → WF.heap[g]? = W.heap[g]?) (hz : WF.heap.size = W.heap.size) (hr0 : Jr J WF v u) : Jx J w.heap.size WF v u := by
  obtain ⟨_, g, b, ho⟩ := h
  have h1 := ho.hg
  have h2 := ho.hb
  exact ⟨hr0, g, b, ho.l.block (fun _ => hr g (by omega)), ho.s.block (fun _ => hr b (by omega)), ⟨by omega, by omega⟩, ⟨by omega, by omega⟩, ho.ne⟩
theorem jo_row {J : Jd} {L H : Nat} {W W' : World} {v u : Value} {g b : Nat} (h : Jo J L H W v u g b) (hj : Jr J W v u) (hk : ∀ q, L ≤ q → q < H → W'.heap[q]? = W.heap[q]?) : Jr J W' v u := by
  refine ⟨(h.l.block (fun _ => hk g h.hg.1 h.hg.2)).row, ?_⟩
  obtain ⟨p, c, e, h2⟩ := hj.2
  obtain ⟨p', c', e', h3⟩ := h.s
  rw [e] at e'
  injection e' with e1 _ e2
  subst e1 e2
  refine ⟨p, c, e, fun hm => ?_⟩
  obtain ⟨a, x1, x2, x0, x3⟩ := h2 hm
  obtain ⟨y1, _⟩ := h3 hm
  rw [x1] at y1
  have ea : a = ⟨b, 0, none⟩ := Option.some.inj y1
  refine ⟨a, x1, x2, x0, fun i hi => ?_⟩
  have hc := x3 i hi
  subst ea
  rw [addr0] at hc ⊢
  have hb := hk b h.hb.1 h.hb.2
  exact ⟨(World.cell?_of_block (a := ⟨b, _, none⟩) hb).trans hc.c0, (World.cell?_of_block (a := ⟨b, _, none⟩) hb).trans hc.c1, (World.cell?_of_block (a := ⟨b, _, none⟩) hb).trans hc.c2, (World.cell?_of_block (a := ⟨b, _, none⟩) hb).trans hc.c3⟩
end Go.Proofs.Ytamcnmnaadpfoaa.Fo

namespace Go.Proofs.Ytamcnmnaadpfoaa.Fo
open Go.ChangeShapes Go.WideShapes Go.ChangeAt Go.RowKit
set_option linter.unusedVariables false
set_option maxRecDepth 100000
set_option maxHeartbeats 32000000 in
theorem im_rj {p : Option Addr} {c : Nat} {M : List UInt8} (w : World) (ha : Arg p c M w) (hM : M.length ≤ 1048576) :
    Calls Try.prog 7 #[.slice p M.length c] w (RjM M w) := by
  obtain ⟨w1, hw1⟩ : ∃ w1, w1 = w.alloc (.cells #[.bool false, .slice none 0 0, .int .i64 0, .int .i64 0, .slice none 0 0] 28) := ⟨_, rfl⟩
  have k1 : Kb 0 w w1 := by rw [hw1]; exact kb_alloc _ _ _
  have z1 : w1.heap.size = w.heap.size + 1 := by rw [hw1]; simp
  have b1 : w1.heap[w.heap.size]? = some (.cells #[.bool false, .slice none 0 0, .int .i64 0, .int .i64 0, .slice none 0 0] 28 (0, 0)) := by rw [hw1]; exact alloc_new _ _ _
  have HU : Calls Try.prog 20 #[.slice p M.length c] w1 (UnA M w1) := by
    rcases Nat.lt_or_ge 8192 M.length with h | h
    · exact im_unpack_long hM h
    · exact im_unpack (ha.keep k1) h
  have H1 : Hid (Kb 0 w w1 ∧ w1.heap.size = w.heap.size + 1 ∧ w1.heap[w.heap.size]? = some (.cells #[.bool false, .slice none 0 0, .int .i64 0, .int .i64 0, .slice none 0 0] 28 (0, 0)) ∧ Arg p c M w ∧ M.length ≤ 1048576) := (⟨k1, z1, b1, ha, hM⟩ : _ ∧ _)
  have HW : Hid (w1 = w.alloc (.cells #[.bool false, .slice none 0 0, .int .i64 0, .int .i64 0, .slice none 0 0] 28)) := hw1
  have HEND : Hid (∀ W, Kb 0 w1 W → w.heap.size + 2 ≤ W.heap.size → RjA M false j0 → (∀ j, W.frozen? ⟨w.heap.size, j, none⟩ = false) ∧ (W.cell? ⟨w.heap.size, 0, none⟩ = some (.bool false) ∧ W.cell? ⟨w.heap.size, 1, none⟩ = some (.slice none 0 0) ∧ W.cell? ⟨w.heap.size, 2, none⟩ = some (.int .i64 0) ∧ W.cell? ⟨w.heap.size, 3, none⟩ = some (.int .i64 0) ∧ W.cell? ⟨w.heap.size, 4, none⟩ = some (.slice none 0 0)) ∧ ∃ WF, WF = (((((W.setCell ⟨w.heap.size, 0, none⟩ (.bool false)).setCell ⟨w.heap.size, 1, none⟩ (.slice none 0 0)).setCell ⟨w.heap.size, 2, none⟩ (.int .i64 0)).setCell ⟨w.heap.size, 3, none⟩ (.int .i64 0)).setCell ⟨w.heap.size, 4, none⟩ (.slice none 0 0)) ∧ (WF.cell? ⟨w.heap.size, 0, none⟩ = some (.bool false) ∧ WF.cell? ⟨w.heap.size, 1, none⟩ = some (.slice none 0 0) ∧ WF.cell? ⟨w.heap.size, 2, none⟩ = some (.int .i64 0) ∧ WF.cell? ⟨w.heap.size, 3, none⟩ = some (.int .i64 0) ∧ WF.cell? ⟨w.heap.size, 4, none⟩ = some (.slice none 0 0)) ∧ RjM M w (.returned (.agg #[.bool false, .slice none 0 0, .int .i64 0, .int .i64 0, .slice none 0 0])) WF) := (fun W k hz hR => by
    have bW := blk_kb b1 k
    obtain ⟨WF, hWF, bF, fr, zF, oF, pF⟩ := five_set (.bool false) (.slice none 0 0) (.int .i64 0) (.int .i64 0) (.slice none 0 0) bW
    have kw := k1.trans k
    exact ⟨fun j => frozen_of bW, ⟨cell_of bW rfl, cell_of bW rfl, cell_of bW rfl, cell_of bW rfl, cell_of bW rfl⟩, WF, hWF, ⟨cell_of bF rfl, cell_of bF rfl, cell_of bF rfl, cell_of bF rfl, cell_of bF rfl⟩, false, j0, _, _, rfl, hR, jx_nil (by omega), ⟨oF.trans kw.os, pF.trans kw.output, by have := kw.size; omega, fun g _ hg => (fr g (by omega)).trans (kw.block g (Nat.zero_le _) hg)⟩⟩ : ∀ W, _)
  have hMI : (M.length : Int) ≤ 1048576 := by omega
  clear ha hM hw1 k1 z1 b1
  go_enter Try.func7, Try.ntmps7
  go_upto_region 1 with fail
  rw [← (show w1 = _ from HW)]
  clear HW
  go_wp2_with fail
  refine HU.mono ?_
  rintro e w2 ⟨ok, a, v, L, rfl, hv, hO, hT, hR, hL, hUn, k2⟩
  clear HU
  obtain ⟨pn, cn, rfl⟩ := own_shape hv
  obtain ⟨w3, hw3⟩ : ∃ w3, w3 = w2.alloc (.cells #[.bool ok, .int .i64 a.k, .int .i64 a.m, .string a.x, .int .i64 a.r, .slice pn L.length cn] 46) := ⟨_, rfl⟩
  have k3 : Kb 0 w2 w3 := by rw [hw3]; exact kb_alloc _ _ _
  have z3 : w3.heap.size = w2.heap.size + 1 := by rw [hw3]; simp
  have b3 : w3.heap[w2.heap.size]? = some (.cells #[.bool ok, .int .i64 a.k, .int .i64 a.m, .string a.x, .int .i64 a.r, .slice pn L.length cn] 46 (0, 0)) := by rw [hw3]; exact alloc_new _ _ _
  obtain ⟨U, hU⟩ : ∃ U, U = w2.heap.size := ⟨_, rfl⟩
  rw [← hU] at b3
  have u0 : w3.cell? ⟨U, 0, none⟩ = some (.bool ok) := cell_of b3 rfl
  have hz2 := k2.size
  have HW3 : Hid (w3 = w2.alloc (.cells #[.bool ok, .int .i64 a.k, .int .i64 a.m, .string a.x, .int .i64 a.r, .slice pn L.length cn] 46) ∧ U = w2.heap.size) := (⟨hw3, hU⟩ : _ ∧ _)
  cases ok
  case false =>
    obtain ⟨fz, ⟨c0, c1, c2, c3, c4⟩, WF, hWF, ⟨e0, e1, e2, e3, e4⟩, hRM⟩ := (show ∀ W, Kb 0 w1 W → _ from HEND) w3 (k2.trans k3) (by have := (show _ ∧ w1.heap.size = w.heap.size + 1 ∧ _ from H1).2.1; omega) (rj_no1 hUn)
    have HWF : Hid (WF = _) := hWF
    have HRM : Hid (RjM M w (.returned (.agg #[.bool false, .slice none 0 0, .int .i64 0, .int .i64 0, .slice none 0 0])) WF) := hRM
    clear hv hO hT hR hL hUn k2 k3 z3 b3 hw3 hU hz2 hWF hRM HEND H1
    go_upto_region 2 with fail
    rw [← (show _ ∧ _ from HW3).1, ← (show _ ∧ _ from HW3).2]
    clear HW3
    go_wp2_with fail
    rw [← (show WF = _ from HWF)]
    clear HWF
    refine bodyPost_ret (by simp [results, Try.results7, go_sem, e0, e1, e2, e3, e4]; rfl) rfl ?_
    exact HRM
  obtain ⟨ys, hys⟩ : ∃ ys, ys = L.map (·.1) := ⟨_, rfl⟩
  have hlen : ys.length = L.length := by rw [hys]; simp
  have hrow : RowT 0 w3 (.slice pn L.length cn) ys.length (TF ys) := by
    have := (rowT_of9 hv hO).keep k3
    rw [hlen, hys]
    exact this
  rw [← hys] at hUn
  obtain ⟨hMn, hRg, hpk, hun⟩ := hUn.1 rfl
  have hG : Gok ys.length (TF ys) a := (pck_read hRg hpk hMn).1
  have HJ := im_jin w3 hlen hrow hG
  have d1 : w3.cell? ⟨U, 1, none⟩ = some (.int .i64 a.k) := cell_of b3 rfl
  have d2 : w3.cell? ⟨U, 2, none⟩ = some (.int .i64 a.m) := cell_of b3 rfl
  have d3 : w3.cell? ⟨U, 3, none⟩ = some (.string a.x) := cell_of b3 rfl
  have d4 : w3.cell? ⟨U, 4, none⟩ = some (.int .i64 a.r) := cell_of b3 rfl
  have d5 : w3.cell? ⟨U, 5, none⟩ = some (.slice pn L.length cn) := cell_of b3 rfl
  have HU2 : Hid (UnR M true (a, ys)) := hUn
  have HGG : Hid (Gok ys.length (TF ys) a) := hG
  have H3 : Hid (Kb 0 w1 w3 ∧ w1.heap.size < w3.heap.size) := (⟨k2.trans k3, by omega⟩ : _ ∧ _)
  unfold grv at HJ
  clear hv hO hT hR hL hUn k2 k3 z3 b3 hw3 hU hz2 hys hlen hrow hMn hRg hpk hun hG
  generalize hJe : jpF (TF ys) = J at HJ
  have HJE : Hid (jpF (TF ys) = J) := hJe
  clear hJe
  go_upto_region 2 with fail
  rw [← (show _ ∧ _ from HW3).1, ← (show _ ∧ _ from HW3).2]
  clear HW3
  go_wp2_with fail
  refine HJ.mono ?_
  rintro e w4 ⟨v, u, rfl, hx, k4⟩
  clear HJ u0 d1 d2 d3 d4 d5
  obtain ⟨pv, cv, rfl, -⟩ := id hx.1.1
  obtain ⟨pu, cu, rfl, -⟩ := id hx.1.2
  obtain ⟨w5, hw5⟩ : ∃ w5, w5 = w4.alloc (.cells #[.slice pv J.n cv, .int .i64 J.p, .int .i64 J.q, .slice pu J.m cu] 26) := ⟨_, rfl⟩
  obtain ⟨V, hVe⟩ : ∃ V, V = w4.heap.size := ⟨_, rfl⟩
  have k5 : Kb 0 w4 w5 := by rw [hw5]; exact kb_alloc _ _ _
  have b5 : w5.heap[V]? = some (.cells #[.slice pv J.n cv, .int .i64 J.p, .int .i64 J.q, .slice pu J.m cu] 26 (0, 0)) := by rw [hw5, hVe]; exact alloc_new _ _ _
  have hr5 := hx.1.keep k5
  have hG := (show Gok ys.length (TF ys) a from HGG)
  have hJn : J.n ≤ 300 := by rw [← (show jpF (TF ys) = J from HJE)]; exact tf_c hG 1
  have hJm : J.m ≤ 300 := by rw [← (show jpF (TF ys) = J from HJE)]; exact tf_c hG 2
  have HI := im_jr w5 hr5.1 hr5.2 (by omega) (by omega) (fun i hi => by
    have h4 : (J.T i).x.size ≤ 4000 := by rw [← (show jpF (TF ys) = J from HJE)]; exact zat_x hG _ 3
    omega)
  have j0' : w5.cell? ⟨V, 0, none⟩ = some (.slice pv J.n cv) := cell_of b5 rfl
  have j1' : w5.cell? ⟨V, 1, none⟩ = some (.int .i64 J.p) := cell_of b5 rfl
  have j2' : w5.cell? ⟨V, 2, none⟩ = some (.int .i64 J.q) := cell_of b5 rfl
  have j3' : w5.cell? ⟨V, 3, none⟩ = some (.slice pu J.m cu) := cell_of b5 rfl
  obtain ⟨R, hRb⟩ : ∃ R : List UInt8, jir J = toI R := by
    unfold jir
    split
    · exact pck_bytes _ _ _
    · exact ⟨[], rfl⟩
  have H5 : Hid (Jx J w3.heap.size w4 (.slice pv J.n cv) (.slice pu J.m cu) ∧ Kb 0 w3 w4 ∧ Kb 0 w4 w5 ∧ w5.heap[V]? = some (.cells #[.slice pv J.n cv, .int .i64 J.p, .int .i64 J.q, .slice pu J.m cu] 26 (0, 0)) ∧ jir J = toI R ∧ V = w4.heap.size) := (⟨hx, k4, k5, b5, hRb, hVe⟩ : _ ∧ _)
  have HW5 : Hid (w5 = w4.alloc (.cells #[.slice pv J.n cv, .int .i64 J.p, .int .i64 J.q, .slice pu J.m cu] 26) ∧ V = w4.heap.size) := (⟨hw5, hVe⟩ : _ ∧ _)
  rw [hRb] at HI
  clear hx k4 hw5 hVe k5 b5 hr5 hG hRb
  go_upto_region 5 with fail
  rw [← (show _ ∧ _ from HW5).1, ← (show _ ∧ _ from HW5).2]
  clear HW5
  go_wp2_with fail
  refine HI.mono ?_
  rintro e w6 ⟨vi, rfl, oi, k6⟩
  clear HI
  obtain ⟨pi, ci, rfl⟩ := own_shape oi
  obtain ⟨kw1, zw1, bw1, ha, hM⟩ := (show Kb 0 w w1 ∧ w1.heap.size = w.heap.size + 1 ∧ w1.heap[w.heap.size]? = some (.cells #[.bool false, .slice none 0 0, .int .i64 0, .int .i64 0, .slice none 0 0] 28 (0, 0)) ∧ Arg p c M w ∧ M.length ≤ 1048576 from H1)
  obtain ⟨k13, z13⟩ := (show Kb 0 w1 w3 ∧ w1.heap.size < w3.heap.size from H3)
  obtain ⟨hx, k4, k5, b5, hRb, hVe⟩ := (show Jx J w3.heap.size w4 (.slice pv J.n cv) (.slice pu J.m cu) ∧ Kb 0 w3 w4 ∧ Kb 0 w4 w5 ∧ w5.heap[V]? = some (.cells #[.slice pv J.n cv, .int .i64 J.p, .int .i64 J.q, .slice pu J.m cu] 26 (0, 0)) ∧ jir J = toI R ∧ V = w4.heap.size from H5)
  have k36 := (k4.trans k5).trans k6
  have k16 := k13.trans k36
  have kw6 := kw1.trans k16
  have HE := im_bytes_equal w6 (conv_pck (R := R) oi) (ha.keep kw6).conv
  have b6 := blk_kb b5 k6
  have hUn := (show UnR M true (a, ys) from HU2)
  have hJp : jp (a, ys) = J := (jp_F a ys).trans (show jpF (TF ys) = J from HJE)
  have hz36 := k36.size
  by_cases hq : R = M
  case neg =>
    have hRj : RjA M false j0 := rj_no2 hUn (by rw [hJp, hRb]; exact fun h => hq (toI_inj h))
    obtain ⟨fz, ⟨c0, c1, c2, c3, c4⟩, WF, hWF, ⟨e0, e1, e2, e3, e4⟩, hRM⟩ := (show ∀ W, Kb 0 w1 W → _ from HEND) w6 k16 (by omega) hRj
    have HWF : Hid (WF = _) := hWF
    have HRM : Hid (RjM M w (.returned (.agg #[.bool false, .slice none 0 0, .int .i64 0, .int .i64 0, .slice none 0 0])) WF) := hRM
    rw [decide_eq_false hq] at HE
    generalize (toI R).length = RL at HE ⊢
    clear oi k6 kw1 zw1 bw1 ha hM k13 z13 hx k4 k5 b5 hRb hVe k36 k16 kw6 b6 hUn hJp hz36 hq hRj hWF hRM HEND H1 H3 H5 HU2 HGG HJE hJn hJm j0' j1' j2' j3'
    go_wp2_with fail
    refine HE.mono ?_
    rintro e w7 ⟨rfl, rfl⟩
    clear HE
    go_wp2_with fail
    rw [← (show WF = _ from HWF)]
    clear HWF
    refine bodyPost_ret (by simp [results, Try.results7, go_sem, e0, e1, e2, e3, e4]; rfl) rfl ?_
    exact HRM
  have hRj : RjA M true J := rj_yes hUn (by rw [hRb, hq])
  have bw6 := blk_kb bw1 k16
  have fz : ∀ j, w6.frozen? ⟨w.heap.size, j, none⟩ = false := fun j => frozen_of bw6
  have c0 : w6.cell? ⟨w.heap.size, 0, none⟩ = some (.bool false) := cell_of bw6 rfl
  have c1 : w6.cell? ⟨w.heap.size, 1, none⟩ = some (.slice none 0 0) := cell_of bw6 rfl
  have c2 : w6.cell? ⟨w.heap.size, 2, none⟩ = some (.int .i64 0) := cell_of bw6 rfl
  have c3 : w6.cell? ⟨w.heap.size, 3, none⟩ = some (.int .i64 0) := cell_of bw6 rfl
  have c4 : w6.cell? ⟨w.heap.size, 4, none⟩ = some (.slice none 0 0) := cell_of bw6 rfl
  have y0 : w6.cell? ⟨V, 0, none⟩ = some (.slice pv J.n cv) := cell_of b6 rfl
  have y1 : w6.cell? ⟨V, 1, none⟩ = some (.int .i64 J.p) := cell_of b6 rfl
  have y2 : w6.cell? ⟨V, 2, none⟩ = some (.int .i64 J.q) := cell_of b6 rfl
  have y3 : w6.cell? ⟨V, 3, none⟩ = some (.slice pu J.m cu) := cell_of b6 rfl
  obtain ⟨WF, hWF, bF, fr, zF, oF, pF⟩ := five_set (.bool true) (.slice pv J.n cv) (.int .i64 J.p) (.int .i64 J.q) (.slice pu J.m cu) bw6
  have e0 : WF.cell? ⟨w.heap.size, 0, none⟩ = some (.bool true) := cell_of bF rfl
  have e1 : WF.cell? ⟨w.heap.size, 1, none⟩ = some (.slice pv J.n cv) := cell_of bF rfl
  have e2 : WF.cell? ⟨w.heap.size, 2, none⟩ = some (.int .i64 J.p) := cell_of bF rfl
  have e3 : WF.cell? ⟨w.heap.size, 3, none⟩ = some (.int .i64 J.q) := cell_of bF rfl
  have e4 : WF.cell? ⟨w.heap.size, 4, none⟩ = some (.slice pu J.m cu) := cell_of bF rfl
  have k46 := k5.trans k6
  have hRM : RjM M w (.returned (.agg #[.bool true, .slice pv J.n cv, .int .i64 J.p, .int .i64 J.q, .slice pu J.m cu])) WF := by
    obtain ⟨hjr, g, b, ho⟩ := hx
    have hz46 := k46.size
    have hkk : ∀ q, w3.heap.size ≤ q → q < w4.heap.size → WF.heap[q]? = w4.heap[q]? := fun q h1 h2 => (fr q (by omega)).trans (k46.block q (Nat.zero_le _) h2)
    have h1 := ho.hg
    have h2 := ho.hb
    exact ⟨true, J, _, _, rfl, hRj, ⟨jo_row ho hjr hkk, g, b, ho.l.block (fun _ => hkk g h1.1 h1.2), ho.s.block (fun _ => hkk b h2.1 h2.2), ⟨by omega, by omega⟩, ⟨by omega, by omega⟩, ho.ne⟩, ⟨oF.trans kw6.os, pF.trans kw6.output, by have := kw6.size; omega, fun g _ hg => (fr g (by omega)).trans (kw6.block g (Nat.zero_le _) hg)⟩⟩
  have HWF : Hid (WF = _) := hWF
  have HRM : Hid (RjM M w (.returned (.agg #[.bool true, .slice pv J.n cv, .int .i64 J.p, .int .i64 J.q, .slice pu J.m cu])) WF) := hRM
  rw [decide_eq_true hq] at HE
  generalize (toI R).length = RL at HE ⊢
  clear oi k6 kw1 zw1 bw1 ha hM k13 z13 hx k4 k5 b5 hRb hVe k36 k16 kw6 b6 hUn hJp hz36 hq hRj hWF hRM HEND H1 H3 H5 HU2 HGG HJE hJn hJm j0' j1' j2' j3' bw6 bF fr zF oF pF k46
  obtain ⟨n, S, p', q', m, T⟩ := J
  dsimp only at *
  go_wp2_with fail
  refine HE.mono ?_
  rintro e w7 ⟨rfl, rfl⟩
  clear HE
  go_wp2_with fail
  rw [← (show WF = _ from HWF)]
  clear HWF
  refine bodyPost_ret (by simp [results, Try.results7, go_sem, e0, e1, e2, e3, e4]; rfl) rfl ?_
  exact HRM
end Go.Proofs.Ytamcnmnaadpfoaa.Fo
