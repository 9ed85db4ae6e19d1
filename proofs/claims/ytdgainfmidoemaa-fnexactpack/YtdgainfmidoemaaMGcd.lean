import Derived.Deep.RegionHeldLaw
import Derived.Test.YtdgainfmidoemaaMGca
import Derived.Test.YtdgainfmidoemaaMGcc
namespace Go.Proofs.Ytdgainfmidoemaa.Fo
open Go.ChangeShapes Go.WideShapes Go.ChangeAt Go.RowKit
set_option linter.unusedVariables false
set_option maxRecDepth 100000
theorem to_graph {a : Gv} {va : Value} {n : Nat} {F : Nat → Td} (w : World) (ha : RowT 0 w va n F) (hb : Bg n F a) : Calls Try.prog 11 #[grv a va] w fun e w' => ∃ v, e = .returned (grv a v) ∧ RowT w.heap.size w' v n F ∧ Kb 0 w w' :=
  to_graph0 w (fun W k => to_things W (ha.keep k) hb.hn (fun i hi => hb.hc i hi))
theorem eq_graph {a : Gv} {va vb : Value} {n : Nat} {F : Nat → Td} (w : World) (ha : RowT 0 w va n F) (hv : RowT 0 w vb n F) (hb : Bg n F a) : Calls Try.prog 13 #[grv a va, grv a vb] w fun e w' => e = .returned (.bool true) ∧ Kb 0 w w' :=
  eq_graph0 w (fun W k => eq_things W (ha.keep k) (hv.keep k) hb.hn (fun i hi => hb.hc i hi))
set_option maxHeartbeats 16000000 in
theorem law_gok {pa : Option Addr} {ca n : Nat} {F : Nat → Td} {a : Gv} {R : Bool} (hsp : ∀ W v, RowT 0 W v n F → Bg n F a → Calls Try.prog 10 #[grv a v] W fun e w' => e = .returned (.bool R) ∧ Kb 0 W w') (him : ∀ W v, RowT 0 W v n F → Bg n F a → Calls Try.prog 12 #[grv a v] W fun e w' => e = .returned (.bool R) ∧ Kb 0 W w') (w : World) (ha : RowT 0 w (.slice pa n ca) n F) (hx : (a.x.size : Int) < 140737488355328) (hn : (n : Int) < 140737488355328) (hF : BT F n) :
    Calls Try.prog 3 #[grv a (.slice pa n ca)] w fun e w' => e = .returned (.bool true) ∧ Kb 0 w w' := by
  obtain ⟨w0, hw0⟩ : ∃ w0, w0 = w.alloc (.cells #[.int .i64 a.k, .int .i64 a.m, .string a.x, .int .i64 a.r, .slice pa n ca] 26) := ⟨_, rfl⟩
  have k0 : Kb 0 w w0 := by rw [hw0]; exact kb_alloc _ _ _
  have b0 : w0.heap[w.heap.size]? = some (.cells #[.int .i64 a.k, .int .i64 a.m, .string a.x, .int .i64 a.r, .slice pa n ca] 26 (0, 0)) := by rw [hw0]; exact alloc_new _ _ _
  have HS0 : Hid (Calls Try.prog 9 #[.agg #[.int .i64 a.k, .int .i64 a.m, .string a.x, .int .i64 a.r, .slice pa n ca], .int .i64 1048576] w0 (Szd (a.x.size + (n + sm (szT F) n)) 1048576 w0)) := sz_graph w0 1048576 (ha.keep k0) hx hn hF (by omega) (by omega)
  have HSP : Hid (∀ W v, RowT 0 W v n F → Bg n F a → Calls Try.prog 10 #[.agg #[.int .i64 a.k, .int .i64 a.m, .string a.x, .int .i64 a.r, v]] W fun e w' => e = .returned (.bool R) ∧ Kb 0 W w') := hsp
  have HIM : Hid (∀ W v, RowT 0 W v n F → Bg n F a → Calls Try.prog 12 #[.agg #[.int .i64 a.k, .int .i64 a.m, .string a.x, .int .i64 a.r, v]] W fun e w' => e = .returned (.bool R) ∧ Kb 0 W w') := him
  have HTO : Hid (∀ W v, RowT 0 W v n F → Bg n F a → Calls Try.prog 11 #[.agg #[.int .i64 a.k, .int .i64 a.m, .string a.x, .int .i64 a.r, v]] W fun e w' => ∃ v', e = .returned (.agg #[.int .i64 a.k, .int .i64 a.m, .string a.x, .int .i64 a.r, v']) ∧ RowT W.heap.size w' v' n F ∧ Kb 0 W w') := (fun W v h b => to_graph W h b : ∀ W v, _)
  have HEQ : Hid (∀ W v v', RowT 0 W v n F → RowT 0 W v' n F → Bg n F a → Calls Try.prog 13 #[.agg #[.int .i64 a.k, .int .i64 a.m, .string a.x, .int .i64 a.r, v], .agg #[.int .i64 a.k, .int .i64 a.m, .string a.x, .int .i64 a.r, v']] W fun e w' => e = .returned (.bool true) ∧ Kb 0 W w') := (fun W v v' h h' b => eq_graph W h h' b : ∀ W v v', _)
  have HA : Hid (RowT 0 w (.slice pa n ca) n F) := ha
  have HBX : Hid (Kb 0 w w0 ∧ w0.heap[w.heap.size]? = some (.cells #[.int .i64 a.k, .int .i64 a.m, .string a.x, .int .i64 a.r, .slice pa n ca] 26 (0, 0))) := (⟨k0, b0⟩ : _ ∧ _)
  have HW0 : Hid (w0 = w.alloc (.cells #[.int .i64 a.k, .int .i64 a.m, .string a.x, .int .i64 a.r, .slice pa n ca] 26)) := hw0
  clear ha hx hn hF hsp him k0 b0 hw0
  unfold grv
  go_enter Try.func3, Try.ntmps3
  go_wp2_with fail
  rw [← (show w0 = _ from HW0)]
  clear HW0
  refine (show Calls Try.prog 9 _ w0 _ from HS0).mono ?_
  rintro e w1 ⟨r, rfl, hr1, hr2, hr3, k1⟩
  clear HS0
  obtain ⟨k0, b0⟩ := (show Kb 0 w w0 ∧ _ from HBX)
  have kw1 := k0.trans k1
  rcases Int.lt_or_le r 0 with h | h
  · have HB : Hid (Kb 0 w w1) := kw1
    clear k1 hr1 HA HSP HIM HTO HEQ HBX k0 b0 kw1
    go_wp2_with fail
    go_ret
    exact ⟨rfl, HB⟩
  have h' : ¬ r < 0 := by omega
  have HBD : Hid (Bg n F a) := bg_of (by have := hr1 h; omega)
  have HBK : Hid (∀ W, Kb 0 w1 W → W.cell? ⟨w.heap.size, 0, none⟩ = some (.int .i64 a.k) ∧ W.cell? ⟨w.heap.size, 1, none⟩ = some (.int .i64 a.m) ∧ W.cell? ⟨w.heap.size, 2, none⟩ = some (.string a.x) ∧ W.cell? ⟨w.heap.size, 3, none⟩ = some (.int .i64 a.r) ∧ W.cell? ⟨w.heap.size, 4, none⟩ = some (.slice pa n ca)) := (fun W k => ⟨(k1.trans k).cell (cell_of b0 rfl), (k1.trans k).cell (cell_of b0 rfl), (k1.trans k).cell (cell_of b0 rfl), (k1.trans k).cell (cell_of b0 rfl), (k1.trans k).cell (cell_of b0 rfl)⟩ : ∀ W, _)
  have HAK : Hid (∀ W, Kb 0 w1 W → RowT 0 W (.slice pa n ca) n F ∧ Kb 0 w W) := (fun W k => ⟨(show RowT 0 w _ n F from HA).keep (kw1.trans k), kw1.trans k⟩ : ∀ W, _)
  obtain ⟨c0, c1, c2, c3, c4⟩ := (show ∀ W, Kb 0 w1 W → _ from HBK) w1 (Kb.refl _ _)
  clear hr1 k1 HBX k0 b0 kw1 HA
  have HT1 := (show ∀ W v, RowT 0 W v n F → Bg n F a → _ from HTO) w1 _ ((show ∀ W, Kb 0 w1 W → _ from HAK) w1 (Kb.refl _ _)).1 HBD
  go_wp2_with fail
  refine HT1.mono ?_
  rintro e w2 ⟨v1, rfl, r1, k2⟩
  clear HT1 c0 c1 c2 c3 c4
  have HS2 := (show ∀ W v, RowT 0 W v n F → Bg n F a → _ from HSP) w2 _ (r1.mono (Nat.zero_le _)) HBD
  obtain ⟨p1, q1, rfl, -⟩ := id r1
  have HK2 : Hid (Kb 0 w1 w2) := k2
  clear r1 k2
  go_wp2_with fail
  refine HS2.mono ?_
  rintro e w3 ⟨rfl, k3⟩
  clear HS2
  have HK3 : Hid (Kb 0 w1 w3) := (show Kb 0 w1 w2 from HK2).trans k3
  clear k3 HK2
  obtain ⟨c0, c1, c2, c3, c4⟩ := (show ∀ W, Kb 0 w1 W → _ from HBK) w3 HK3
  have HT3 := (show ∀ W v, RowT 0 W v n F → Bg n F a → _ from HTO) w3 _ ((show ∀ W, Kb 0 w1 W → _ from HAK) w3 HK3).1 HBD
  go_wp2_with fail
  refine HT3.mono ?_
  rintro e w5 ⟨vx, rfl, rx, k5⟩
  clear HT3 c0 c1 c2 c3 c4
  obtain ⟨px, qx, rfl, -⟩ := id rx
  obtain ⟨w6, hw6⟩ : ∃ w6, w6 = w5.alloc (.cells #[.int .i64 a.k, .int .i64 a.m, .string a.x, .int .i64 a.r, .slice px n qx] 32) := ⟨_, rfl⟩
  have k56 : Kb 0 w5 w6 := by rw [hw6]; exact kb_alloc _ _ _
  have b6 : w6.heap[w5.heap.size]? = some (.cells #[.int .i64 a.k, .int .i64 a.m, .string a.x, .int .i64 a.r, .slice px n qx] 32 (0, 0)) := by rw [hw6]; exact alloc_new _ _ _
  have HK6 : Hid (Kb 0 w1 w6 ∧ RowT 0 w6 (.slice px n qx) n F ∧ w6.heap[w5.heap.size]? = some (.cells #[.int .i64 a.k, .int .i64 a.m, .string a.x, .int .i64 a.r, .slice px n qx] 32 (0, 0))) := (⟨((show Kb 0 w1 w3 from HK3).trans k5).trans k56, (rx.mono (Nat.zero_le _)).keep k56, b6⟩ : _ ∧ _)
  have HS6 := (show ∀ W v, RowT 0 W v n F → Bg n F a → _ from HIM) w6 _ ((rx.mono (Nat.zero_le _)).keep k56) HBD
  have HW6 : Hid (w6 = w5.alloc (.cells #[.int .i64 a.k, .int .i64 a.m, .string a.x, .int .i64 a.r, .slice px n qx] 32)) := hw6
  clear rx k5 k56 b6 hw6 HK3
  go_wp2_with fail
  rw [← (show w6 = _ from HW6)]
  clear HW6
  refine HS6.mono ?_
  rintro e w7 ⟨rfl, k7⟩
  clear HS6
  obtain ⟨k16, r6, b6⟩ := (show Kb 0 w1 w6 ∧ RowT 0 w6 (.slice px n qx) n F ∧ _ from HK6)
  have HK7 : Hid (Kb 0 w1 w7 ∧ RowT 0 w7 (.slice px n qx) n F) := (⟨k16.trans k7, r6.keep k7⟩ : _ ∧ _)
  have HCX : Hid (∀ W, Kb 0 w7 W → (W.cell? ⟨w5.heap.size, 0, none⟩ = some (.int .i64 a.k) ∧ W.cell? ⟨w5.heap.size, 1, none⟩ = some (.int .i64 a.m) ∧ W.cell? ⟨w5.heap.size, 2, none⟩ = some (.string a.x) ∧ W.cell? ⟨w5.heap.size, 3, none⟩ = some (.int .i64 a.r) ∧ W.cell? ⟨w5.heap.size, 4, none⟩ = some (.slice px n qx)) ∧ W.cell? ⟨w.heap.size, 0, none⟩ = some (.int .i64 a.k) ∧ W.cell? ⟨w.heap.size, 1, none⟩ = some (.int .i64 a.m) ∧ W.cell? ⟨w.heap.size, 2, none⟩ = some (.string a.x) ∧ W.cell? ⟨w.heap.size, 3, none⟩ = some (.int .i64 a.r) ∧ W.cell? ⟨w.heap.size, 4, none⟩ = some (.slice pa n ca)) := (fun W k => by
    have b7 := (k7.trans k)
    exact ⟨⟨b7.cell (cell_of b6 rfl), b7.cell (cell_of b6 rfl), b7.cell (cell_of b6 rfl), b7.cell (cell_of b6 rfl), b7.cell (cell_of b6 rfl)⟩, (show ∀ W, Kb 0 w1 W → _ from HBK) W (k16.trans b7)⟩ : ∀ W, _)
  have HTW : Hid (∀ W, Kb 0 w7 W → Calls Try.prog 11 #[.agg #[.int .i64 a.k, .int .i64 a.m, .string a.x, .int .i64 a.r, .slice pa n ca]] W fun e w' => ∃ v', e = .returned (.agg #[.int .i64 a.k, .int .i64 a.m, .string a.x, .int .i64 a.r, v']) ∧ RowT W.heap.size w' v' n F ∧ Kb 0 W w') := (fun W k => (show ∀ W v, RowT 0 W v n F → Bg n F a → _ from HTO) W _ ((show ∀ W, Kb 0 w1 W → _ from HAK) W ((k16.trans k7).trans k)).1 HBD : ∀ W, _)
  have HEW : Hid (∀ W v2, Kb 0 w7 W → RowT 0 W v2 n F → Calls Try.prog 13 #[.agg #[.int .i64 a.k, .int .i64 a.m, .string a.x, .int .i64 a.r, .slice px n qx], .agg #[.int .i64 a.k, .int .i64 a.m, .string a.x, .int .i64 a.r, v2]] W fun e w' => e = .returned (.bool true) ∧ Kb 0 W w') := (fun W v2 k h2 => (show ∀ W v v', RowT 0 W v n F → RowT 0 W v' n F → Bg n F a → _ from HEQ) W _ _ ((r6.keep k7).keep k) h2 HBD : ∀ W v2, _)
  obtain ⟨⟨x0, x1, x2, x3, x4⟩, c0, c1, c2, c3, c4⟩ := (show ∀ W, Kb 0 w7 W → _ from HCX) w7 (Kb.refl _ _)
  have HCC : Hid ((w7.cell? ⟨w5.heap.size, 0, none⟩ = some (.int .i64 a.k) ∧ w7.cell? ⟨w5.heap.size, 1, none⟩ = some (.int .i64 a.m) ∧ w7.cell? ⟨w5.heap.size, 2, none⟩ = some (.string a.x) ∧ w7.cell? ⟨w5.heap.size, 3, none⟩ = some (.int .i64 a.r) ∧ w7.cell? ⟨w5.heap.size, 4, none⟩ = some (.slice px n qx)) ∧ w7.cell? ⟨w.heap.size, 0, none⟩ = some (.int .i64 a.k) ∧ w7.cell? ⟨w.heap.size, 1, none⟩ = some (.int .i64 a.m) ∧ w7.cell? ⟨w.heap.size, 2, none⟩ = some (.string a.x) ∧ w7.cell? ⟨w.heap.size, 3, none⟩ = some (.int .i64 a.r) ∧ w7.cell? ⟨w.heap.size, 4, none⟩ = some (.slice pa n ca)) := (show ∀ W, Kb 0 w7 W → _ from HCX) w7 (Kb.refl _ _)
  have HKW : Hid (∀ W, Kb 0 w7 W → Kb 0 w W) := (fun W k => ((show ∀ W, Kb 0 w1 W → _ from HAK) W ((k16.trans k7).trans k)).2 : ∀ W, _)
  have mixed : Try.prog.follows .mixedOrders = true := by kernel_rfl
  have hRR : (R != R) = false := by cases R <;> rfl
  clear k7 k16 r6 b6 HK6 HK7 HSP HIM HTO HEQ HBD HBK HAK
  generalize w5.heap.size = XB at *
  go_wp2_with fail
  go_region_held_law (fun W' => (W'.cell? ⟨XB, 0, none⟩ = some (.int .i64 a.k) ∧ W'.cell? ⟨XB, 1, none⟩ = some (.int .i64 a.m) ∧ W'.cell? ⟨XB, 2, none⟩ = some (.string a.x) ∧ W'.cell? ⟨XB, 3, none⟩ = some (.int .i64 a.r) ∧ W'.cell? ⟨XB, 4, none⟩ = some (.slice px n qx)) ∧ W'.cell? ⟨w.heap.size, 0, none⟩ = some (.int .i64 a.k) ∧ W'.cell? ⟨w.heap.size, 1, none⟩ = some (.int .i64 a.m) ∧ W'.cell? ⟨w.heap.size, 2, none⟩ = some (.string a.x) ∧ W'.cell? ⟨w.heap.size, 3, none⟩ = some (.int .i64 a.r) ∧ W'.cell? ⟨w.heap.size, 4, none⟩ = some (.slice pa n ca)) (first | exact s11 | exact s10 | exact (show (w7.cell? ⟨XB, 0, none⟩ = some (.int .i64 a.k) ∧ w7.cell? ⟨XB, 1, none⟩ = some (.int .i64 a.m) ∧ w7.cell? ⟨XB, 2, none⟩ = some (.string a.x) ∧ w7.cell? ⟨XB, 3, none⟩ = some (.int .i64 a.r) ∧ w7.cell? ⟨XB, 4, none⟩ = some (.slice px n qx)) ∧ w7.cell? ⟨w.heap.size, 0, none⟩ = some (.int .i64 a.k) ∧ w7.cell? ⟨w.heap.size, 1, none⟩ = some (.int .i64 a.m) ∧ w7.cell? ⟨w.heap.size, 2, none⟩ = some (.string a.x) ∧ w7.cell? ⟨w.heap.size, 3, none⟩ = some (.int .i64 a.r) ∧ w7.cell? ⟨w.heap.size, 4, none⟩ = some (.slice pa n ca) from HCC))
    (first
      | (go_at_call 11; refine ((show ∀ W, Kb 0 w7 W → _ from HTW) _ (by exact Kb.drewN (Kb.refl _ _) 1)).mono ?_; rintro e w10 ⟨v2, rfl, o2, k10⟩; have K10 : Kb 0 w7 w10 := ⟨k10.os, k10.output, k10.size, k10.block⟩; have s10 := (show ∀ W, Kb 0 w7 W → _ from HCX) w10 K10)
      | (go_at_call 13; refine ((show ∀ W v2, _ from HEW) _ _ K10 (o2.mono (Nat.zero_le _))).mono ?_; rintro e w11 ⟨rfl, k11⟩; have K11 : Kb 0 w7 w11 := K10.trans k11; have s11 := (show ∀ W, Kb 0 w7 W → _ from HCX) w11 K11))
  have HB11 : Hid (Kb 0 w w11) := (show ∀ W, Kb 0 w7 W → _ from HKW) w11 K11
  clear x0 x1 x2 x3 x4 c0 c1 c2 c3 c4 HCX HCC HTW HEW HKW o2 k10 K10 s10 k11 K11 s11
  go_wp2_with fail
  go_ret
  exact ⟨rfl, HB11⟩
end Go.Proofs.Ytdgainfmidoemaa.Fo
