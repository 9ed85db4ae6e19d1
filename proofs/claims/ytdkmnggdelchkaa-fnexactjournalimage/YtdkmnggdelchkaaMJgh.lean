import Derived.Test.YtdkmnggdelchkaaMJgg
import Derived.Test.YtdkmnggdelchkaaMJgd
import Derived.Test.YtdkmnggdelchkaaMJge
namespace Go.Proofs.Ytdkmnggdelchkaa.Fo
open Go.ChangeShapes Go.WideShapes Go.ChangeAt Go.RowKit
set_option linter.unusedVariables false
set_option maxRecDepth 100000
set_option maxHeartbeats 16000000 in
theorem sp_ji {J : Jd} {p1 p2 : Option Addr} {c1 c2 : Nat} (w : World) (hl : RowV w (.slice p1 J.n c1) J.n (fun i => .string (J.S i))) (hs : Js.RowW 0 w (.slice p2 J.m c2) J.m J.T) (hn : J.n ≤ 1048576) (hm : J.m ≤ 1048576) (hx : ∀ i, i < J.m → ((J.T i).x.size : Int) ≤ 9223372036854775807) :
    Calls Try.prog 6 #[.agg #[.slice p1 J.n c1, .int .i64 J.p, .int .i64 J.q, .slice p2 J.m c2]] w fun e w' => ∃ v, e = .returned v ∧ w'.ownsRow w.heap.size 5 1 v (jim J).length (bvs (jim J)) ∧ Kb 0 w w' := by
  obtain ⟨w0, hw0⟩ : ∃ w0, w0 = w.alloc (.cells #[.slice p1 J.n c1, .int .i64 J.p, .int .i64 J.q, .slice p2 J.m c2] 31) := ⟨_, rfl⟩
  have k0 : Kb 0 w w0 := by rw [hw0]; exact kb_alloc _ _ _
  have b0 : w0.heap[w.heap.size]? = some (.cells #[.slice p1 J.n c1, .int .i64 J.p, .int .i64 J.q, .slice p2 J.m c2] 31 (0, 0)) := by rw [hw0]; exact alloc_new _ _ _
  have hl0 := ((RowV.rowB hl).keep k0)
  have hs0 := hs.keep k0
  have HO := sp_isj w0 hl0.row hs0 hn hm hx
  obtain ⟨L, hL⟩ : ∃ L, L = jim J := ⟨_, rfl⟩
  rw [← hL]
  have HB : Hid (∀ W, Kb 0 w0 W → W.cell? ⟨w.heap.size, 0, none⟩ = some (.slice p1 J.n c1) ∧ W.cell? ⟨w.heap.size, 1, none⟩ = some (.int .i64 J.p) ∧ W.cell? ⟨w.heap.size, 2, none⟩ = some (.int .i64 J.q) ∧ W.cell? ⟨w.heap.size, 3, none⟩ = some (.slice p2 J.m c2)) := (fun W k => ⟨k.cell (cell_of b0 rfl), k.cell (cell_of b0 rfl), k.cell (cell_of b0 rfl), k.cell (cell_of b0 rfl)⟩ : ∀ W, _)
  obtain ⟨q0, q1, q2, q3⟩ := (show ∀ W, Kb 0 w0 W → _ from HB) w0 (Kb.refl _ _)
  have HW : Hid (w0 = w.alloc (.cells #[.slice p1 J.n c1, .int .i64 J.p, .int .i64 J.q, .slice p2 J.m c2] 31)) := hw0
  have HK : Hid (Kb 0 w w0) := k0
  by_cases hok : Jok J
  case neg =>
    obtain rfl : L = [] := hL.trans (by unfold jim; rw [dc_f hok]; rfl)
    rw [dc_f hok] at HO
    clear hok hL hl hs hn hm hx hl0 hs0 k0 b0 hw0 HB
    obtain ⟨n, S, p, q, m, T⟩ := J
    dsimp only at *
    go_enter Try.func6, Try.ntmps6
    go_upto_region 1 with fail
    rw [← (show w0 = _ from HW)]
    clear HW
    go_wp2_with fail
    refine HO.mono ?_
    rintro e w1 ⟨rfl, k1⟩
    have HF : Hid (Kb 0 w w1) := (show Kb 0 w w0 from HK).trans k1
    clear HO k1 q0 q1 q2 q3
    go_wp2_with fail
    go_ret
    exact ⟨_, rfl, World.ownsRow_nil _ _ _ _, HF⟩
  rw [dc_t hok] at HO
  have HG : Hid (∀ W, Kb 0 w0 W → Calls Try.prog 24 #[.agg #[.slice p1 J.n c1, .int .i64 J.p, .int .i64 J.q, .slice p2 J.m c2]] W fun e w' => ∃ v, e = .returned (grv (ndV 0) v) ∧ RowT 0 w' v (3 + J.m) (jF J) ∧ Kb 0 W w') := (fun W k => sp_graph W (hl0.keep k).row (hs0.keep k) hok.1 hok.2.1 : ∀ W, _)
  have HP : Hid (∀ W v, RowT 0 W v (3 + J.m) (jF J) → Calls Try.prog 23 #[grv (ndV 0) v] W fun e w' => ∃ v, e = .returned v ∧ w'.ownsRow W.heap.size 5 1 v L.length (bvs L) ∧ Kb 0 W w') := (fun W v h => by
    have := sp_pack W h (jok_bg hok) (jok_rg hok)
    rw [hL, show jim J = pck (3 + J.m) (jF J) (ndV 0) from by unfold jim; rw [dc_t hok, if_pos rfl]]
    exact this : ∀ W v, _)
  have HM : Hid (0 ≤ J.m) := Nat.zero_le _
  generalize jF J = FJ at HG HP
  clear hok hL hl hs hn hm hx hl0 hs0 k0 b0 hw0
  obtain ⟨n, S, p, q, m, T⟩ := J
  dsimp only at *
  go_enter Try.func6, Try.ntmps6
  go_upto_region 1 with fail
  rw [← (show w0 = _ from HW)]
  clear HW
  go_wp2_with fail
  refine HO.mono ?_
  rintro e w1 ⟨rfl, k1⟩
  obtain ⟨r0, r1, r2, r3⟩ := (show ∀ W, Kb 0 w0 W → _ from HB) w1 k1
  have HG1 := (show ∀ W, Kb 0 w0 W → _ from HG) w1 k1
  have K1 : Hid (Kb 0 w w1) := (show Kb 0 w w0 from HK).trans k1
  clear HO k1 q0 q1 q2 q3 HB HG
  go_wp2_with fail
  refine HG1.mono ?_
  rintro e w2 ⟨v, rfl, hr, k2⟩
  have HP2 := (show ∀ W v, RowT 0 W v (3 + m) FJ → _ from HP) w2 v hr
  have K2 : Hid (Kb 0 w w2) := (show Kb 0 w w1 from K1).trans k2
  obtain ⟨pv, cv, rfl, -⟩ := id hr
  clear hr k2 HG1 HP r0 r1 r2 r3
  unfold grv ndV at HP2 ⊢
  dsimp only at HP2 ⊢
  go_wp2_with fail
  refine HP2.mono ?_
  rintro e w3 ⟨v, rfl, ho, k3⟩
  obtain ⟨pb, cb, rfl⟩ := own_shape ho
  have HF : Hid (w3.ownsRow w.heap.size 5 1 (.slice pb L.length cb) L.length (bvs L) ∧ Kb 0 w w3) := (⟨own_base ho (show Kb 0 w w2 from K2).size, (show Kb 0 w w2 from K2).trans k3⟩ : _ ∧ _)
  clear HP2 ho k3
  go_wp2_with fail
  go_ret
  exact ⟨_, rfl, HF⟩
set_option maxHeartbeats 16000000 in
theorem im_ji {J : Jd} {p1 p2 : Option Addr} {c1 c2 : Nat} (w : World) (hl : RowV w (.slice p1 J.n c1) J.n (fun i => .string (J.S i))) (hs : Js.RowW 0 w (.slice p2 J.m c2) J.m J.T) (hn : J.n ≤ 1048576) (hm : J.m ≤ 1048576) (hx : ∀ i, i < J.m → ((J.T i).x.size : Int) ≤ 9223372036854775807) :
    Calls Try.prog 8 #[.agg #[.slice p1 J.n c1, .int .i64 J.p, .int .i64 J.q, .slice p2 J.m c2]] w fun e w' => ∃ v, e = .returned v ∧ w'.ownsRow w.heap.size 5 1 v (jim J).length (bvs (jim J)) ∧ Kb 0 w w' := by
  obtain ⟨w0, hw0⟩ : ∃ w0, w0 = w.alloc (.cells #[.slice p1 J.n c1, .int .i64 J.p, .int .i64 J.q, .slice p2 J.m c2] 31) := ⟨_, rfl⟩
  have k0 : Kb 0 w w0 := by rw [hw0]; exact kb_alloc _ _ _
  have b0 : w0.heap[w.heap.size]? = some (.cells #[.slice p1 J.n c1, .int .i64 J.p, .int .i64 J.q, .slice p2 J.m c2] 31 (0, 0)) := by rw [hw0]; exact alloc_new _ _ _
  have hl0 := ((RowV.rowB hl).keep k0)
  have hs0 := hs.keep k0
  have HO := im_isj w0 hl0.row hs0 hn hm hx
  obtain ⟨L, hL⟩ : ∃ L, L = jim J := ⟨_, rfl⟩
  rw [← hL]
  have HB : Hid (∀ W, Kb 0 w0 W → W.cell? ⟨w.heap.size, 0, none⟩ = some (.slice p1 J.n c1) ∧ W.cell? ⟨w.heap.size, 1, none⟩ = some (.int .i64 J.p) ∧ W.cell? ⟨w.heap.size, 2, none⟩ = some (.int .i64 J.q) ∧ W.cell? ⟨w.heap.size, 3, none⟩ = some (.slice p2 J.m c2)) := (fun W k => ⟨k.cell (cell_of b0 rfl), k.cell (cell_of b0 rfl), k.cell (cell_of b0 rfl), k.cell (cell_of b0 rfl)⟩ : ∀ W, _)
  obtain ⟨q0, q1, q2, q3⟩ := (show ∀ W, Kb 0 w0 W → _ from HB) w0 (Kb.refl _ _)
  have HW : Hid (w0 = w.alloc (.cells #[.slice p1 J.n c1, .int .i64 J.p, .int .i64 J.q, .slice p2 J.m c2] 31)) := hw0
  have HK : Hid (Kb 0 w w0) := k0
  by_cases hok : Jok J
  case neg =>
    obtain rfl : L = [] := hL.trans (by unfold jim; rw [dc_f hok]; rfl)
    rw [dc_f hok] at HO
    clear hok hL hl hs hn hm hx hl0 hs0 k0 b0 hw0 HB
    obtain ⟨n, S, p, q, m, T⟩ := J
    dsimp only at *
    go_enter Try.func8, Try.ntmps8
    go_upto_region 1 with fail
    rw [← (show w0 = _ from HW)]
    clear HW
    go_wp2_with fail
    refine HO.mono ?_
    rintro e w1 ⟨rfl, k1⟩
    have HF : Hid (Kb 0 w w1) := (show Kb 0 w w0 from HK).trans k1
    clear HO k1 q0 q1 q2 q3
    go_wp2_with fail
    go_ret
    exact ⟨_, rfl, World.ownsRow_nil _ _ _ _, HF⟩
  rw [dc_t hok] at HO
  have HG : Hid (∀ W, Kb 0 w0 W → Calls Try.prog 29 #[.agg #[.slice p1 J.n c1, .int .i64 J.p, .int .i64 J.q, .slice p2 J.m c2]] W fun e w' => ∃ v, e = .returned (grv (ndV 0) v) ∧ RowT 0 w' v (3 + J.m) (jF J) ∧ Kb 0 W w') := (fun W k => im_graph W (hl0.keep k).row (hs0.keep k) hok.1 hok.2.1 : ∀ W, _)
  have HP : Hid (∀ W v, RowT 0 W v (3 + J.m) (jF J) → Calls Try.prog 28 #[grv (ndV 0) v] W fun e w' => ∃ v, e = .returned v ∧ w'.ownsRow W.heap.size 5 1 v L.length (bvs L) ∧ Kb 0 W w') := (fun W v h => by
    have := im_pack W h (jok_bg hok) (jok_rg hok)
    rw [hL, show jim J = pck (3 + J.m) (jF J) (ndV 0) from by unfold jim; rw [dc_t hok, if_pos rfl]]
    exact this : ∀ W v, _)
  have HM : Hid (0 ≤ J.m) := Nat.zero_le _
  generalize jF J = FJ at HG HP
  clear hok hL hl hs hn hm hx hl0 hs0 k0 b0 hw0
  obtain ⟨n, S, p, q, m, T⟩ := J
  dsimp only at *
  go_enter Try.func8, Try.ntmps8
  go_upto_region 1 with fail
  rw [← (show w0 = _ from HW)]
  clear HW
  go_wp2_with fail
  refine HO.mono ?_
  rintro e w1 ⟨rfl, k1⟩
  obtain ⟨r0, r1, r2, r3⟩ := (show ∀ W, Kb 0 w0 W → _ from HB) w1 k1
  have HG1 := (show ∀ W, Kb 0 w0 W → _ from HG) w1 k1
  have K1 : Hid (Kb 0 w w1) := (show Kb 0 w w0 from HK).trans k1
  clear HO k1 q0 q1 q2 q3 HB HG
  go_wp2_with fail
  refine HG1.mono ?_
  rintro e w2 ⟨v, rfl, hr, k2⟩
  have HP2 := (show ∀ W v, RowT 0 W v (3 + m) FJ → _ from HP) w2 v hr
  have K2 : Hid (Kb 0 w w2) := (show Kb 0 w w1 from K1).trans k2
  obtain ⟨pv, cv, rfl, -⟩ := id hr
  clear hr k2 HG1 HP r0 r1 r2 r3
  unfold grv ndV at HP2 ⊢
  dsimp only at HP2 ⊢
  go_wp2_with fail
  refine HP2.mono ?_
  rintro e w3 ⟨v, rfl, ho, k3⟩
  obtain ⟨pb, cb, rfl⟩ := own_shape ho
  have HF : Hid (w3.ownsRow w.heap.size 5 1 (.slice pb L.length cb) L.length (bvs L) ∧ Kb 0 w w3) := (⟨own_base ho (show Kb 0 w w2 from K2).size, (show Kb 0 w w2 from K2).trans k3⟩ : _ ∧ _)
  clear HP2 ho k3
  go_wp2_with fail
  go_ret
  exact ⟨_, rfl, HF⟩
end Go.Proofs.Ytdkmnggdelchkaa.Fo
