import Derived.Test.YtieccnkabllamaaIoc
import Derived.Deep.RegionHeldLaw
namespace Go.Proofs.Ytieccnkabllamaa.Fo
open Go.ChangeShapes Go.WideShapes Go.ChangeAt Go.RowKit
set_option linter.unusedVariables false
set_option maxRecDepth 100000
theorem to_inp {va vl : Value} {p q : Nat} {A L : Nat → ByteArray} (T D C : Int) (w : World) (ha : RowB 0 w va p (fun i => .string (A i))) (hl : RowB 0 w vl q (fun i => .string (L i))) (hp : p ≤ 1048576) (hq : q ≤ 1048576) :
    Calls Try.prog 13 #[.agg #[va, vl, .int .i64 T, .int .i64 D, .int .i64 C]] w fun e w' => ∃ v0 v1, e = .returned (.agg #[v0, v1, .int .i64 T, .int .i64 D, .int .i64 C]) ∧ RowB 0 w' v0 p (fun i => .string (A i)) ∧ RowB 0 w' v1 q (fun i => .string (L i)) ∧ Kb 0 w w' :=
  (to_input T D C w (fun W k => to_strs' W (ha.keep k).row hp) (fun W k => to_strs' W (hl.keep k).row hq)).mono (fun e w' ⟨v0, v1, h1, h2, h3, h4⟩ => ⟨v0, v1, h1, h2.mono (Nat.zero_le _), h3.mono (Nat.zero_le _), h4⟩)
theorem eq_inp {va vl ua ul : Value} {p q : Nat} {A L : Nat → ByteArray} (T D C : Int) (w : World) (ha : RowB 0 w va p (fun i => .string (A i))) (hl : RowB 0 w vl q (fun i => .string (L i))) (ga : RowB 0 w ua p (fun i => .string (A i))) (gl : RowB 0 w ul q (fun i => .string (L i))) (hp : p ≤ 1048576) (hq : q ≤ 1048576) :
    Calls Try.prog 15 #[.agg #[va, vl, .int .i64 T, .int .i64 D, .int .i64 C], .agg #[ua, ul, .int .i64 T, .int .i64 D, .int .i64 C]] w fun e w' => e = .returned (.bool true) ∧ Kb 0 w w' :=
  eq_input T D C w (fun W k => eq_strs' W (ha.keep k) (ga.keep k) hp) (fun W k => eq_strs' W (hl.keep k) (gl.keep k) hq)
set_option maxHeartbeats 16000000 in
theorem law_input {pa pl : Option Addr} {ca cl p q : Nat} {A L : Nat → ByteArray} (T D C : Int) (w : World) (ha : RowB 0 w (.slice pa p ca) p (fun i => .string (A i))) (hl : RowB 0 w (.slice pl q cl) q (fun i => .string (L i))) (hn : (p : Int) < 140737488355328) (hm : (q : Int) < 140737488355328) (sa : ∀ i, i < p → ((A i).size : Int) < 140737488355328) (sl : ∀ i, i < q → ((L i).size : Int) < 140737488355328) :
    Calls Try.prog 4 #[.agg #[.slice pa p ca, .slice pl q cl, .int .i64 T, .int .i64 D, .int .i64 C]] w fun e w' => e = .returned (.bool true) ∧ Kb 0 w w' := by
  obtain ⟨w0, hw0⟩ : ∃ w0, w0 = w.alloc (.cells #[.slice pa p ca, .slice pl q cl, .int .i64 T, .int .i64 D, .int .i64 C] 38) := ⟨_, rfl⟩
  have k0 : Kb 0 w w0 := by rw [hw0]; exact kb_alloc _ _ _
  have b0 : w0.heap[w.heap.size]? = some (.cells #[.slice pa p ca, .slice pl q cl, .int .i64 T, .int .i64 D, .int .i64 C] 38 (0, 0)) := by rw [hw0]; exact alloc_new _ _ _
  have HS0 : Hid (Calls Try.prog 11 #[.agg #[.slice pa p ca, .slice pl q cl, .int .i64 T, .int .i64 D, .int .i64 C], .int .i64 1048576] w0 (Szd (p + q) 1048576 w0)) := sz_input T D C w0 (fun W l k a b => szd_strs W l ((ha.keep k0).keep k).row hn sa a b) (fun W l k a b => szd_strs W l ((hl.keep k0).keep k).row hm sl a b)
  have HA : Hid (RowB 0 w (.slice pa p ca) p (fun i => .string (A i)) ∧ RowB 0 w (.slice pl q cl) q (fun i => .string (L i))) := (⟨ha, hl⟩ : _ ∧ _)
  have HC : Hid (Kb 0 w w0 ∧ w0.cell? ⟨w.heap.size, 0, none⟩ = some (.slice pa p ca) ∧ w0.cell? ⟨w.heap.size, 1, none⟩ = some (.slice pl q cl) ∧ w0.cell? ⟨w.heap.size, 2, none⟩ = some (.int .i64 T) ∧ w0.cell? ⟨w.heap.size, 3, none⟩ = some (.int .i64 D) ∧ w0.cell? ⟨w.heap.size, 4, none⟩ = some (.int .i64 C)) := (⟨k0, cell_of b0 rfl, cell_of b0 rfl, cell_of b0 rfl, cell_of b0 rfl, cell_of b0 rfl⟩ : _ ∧ _)
  have HW0 : Hid (w0 = w.alloc (.cells #[.slice pa p ca, .slice pl q cl, .int .i64 T, .int .i64 D, .int .i64 C] 38)) := hw0
  clear ha hl hn hm sa sl k0 b0 hw0
  go_enter Try.func4, Try.ntmps4
  go_wp2_with fail
  rw [← (show w0 = _ from HW0)]
  clear HW0
  refine (show Calls Try.prog 11 #[.agg #[.slice pa p ca, .slice pl q cl, .int .i64 T, .int .i64 D, .int .i64 C], .int .i64 1048576] w0 (Szd (p + q) 1048576 w0) from HS0).mono ?_
  rintro e w1 ⟨r, rfl, hr1, hr2, hr3, k1⟩
  clear HS0
  rcases Int.lt_or_le r 0 with h | h
  · have HB : Hid (Kb 0 w w1) := HC.1.trans k1
    clear k1 hr1 HA HC
    go_wp2_with fail
    go_ret
    exact ⟨rfl, HB⟩
  · have h' : ¬ r < 0 := by omega
    have HBD : Hid (p ≤ 1048576 ∧ q ≤ 1048576) := (by have := hr1 h; constructor <;> omega : _ ∧ _)
    have HK1 : Hid (Kb 0 w w1 ∧ w1.cell? ⟨w.heap.size, 0, none⟩ = some (.slice pa p ca) ∧ w1.cell? ⟨w.heap.size, 1, none⟩ = some (.slice pl q cl) ∧ w1.cell? ⟨w.heap.size, 2, none⟩ = some (.int .i64 T) ∧ w1.cell? ⟨w.heap.size, 3, none⟩ = some (.int .i64 D) ∧ w1.cell? ⟨w.heap.size, 4, none⟩ = some (.int .i64 C)) := (⟨HC.1.trans k1, k1.cell HC.2.1, k1.cell HC.2.2.1, k1.cell HC.2.2.2.1, k1.cell HC.2.2.2.2.1, k1.cell HC.2.2.2.2.2⟩ : _ ∧ _)
    have c0 : w1.cell? ⟨w.heap.size, 0, none⟩ = some (.slice pa p ca) := HK1.2.1
    have c1 : w1.cell? ⟨w.heap.size, 1, none⟩ = some (.slice pl q cl) := HK1.2.2.1
    have c2 : w1.cell? ⟨w.heap.size, 2, none⟩ = some (.int .i64 T) := HK1.2.2.2.1
    have c3 : w1.cell? ⟨w.heap.size, 3, none⟩ = some (.int .i64 D) := HK1.2.2.2.2.1
    have c4 : w1.cell? ⟨w.heap.size, 4, none⟩ = some (.int .i64 C) := HK1.2.2.2.2.2
    clear hr1 k1 HC
    go_wp2_with fail
    refine (to_inp T D C w1 (HA.1.keep HK1.1) (HA.2.keep HK1.1) HBD.1 HBD.2).mono ?_
    rintro e w2 ⟨v1, u1, rfl, r1, r1', k2⟩
    have HK2 : Hid (Kb 0 w w2 ∧ w2.cell? ⟨w.heap.size, 0, none⟩ = some (.slice pa p ca) ∧ w2.cell? ⟨w.heap.size, 1, none⟩ = some (.slice pl q cl) ∧ w2.cell? ⟨w.heap.size, 2, none⟩ = some (.int .i64 T) ∧ w2.cell? ⟨w.heap.size, 3, none⟩ = some (.int .i64 D) ∧ w2.cell? ⟨w.heap.size, 4, none⟩ = some (.int .i64 C)) := (⟨HK1.1.trans k2, k2.cell c0, k2.cell c1, k2.cell c2, k2.cell c3, k2.cell c4⟩ : _ ∧ _)
    have HR2 : Hid (RowB 0 w2 (v1) p (fun i => .string (A i)) ∧ RowB 0 w2 (u1) q (fun i => .string (L i))) := (⟨r1, r1'⟩ : _ ∧ _)
    clear c0 c1 c2 c3 c4 HK1 k2 r1 r1'
    go_wp2_with fail
    refine (sp_input T D C w2 HR2.1.row HR2.2.row HBD.1 HBD.2).mono ?_
    rintro e w3 ⟨rfl, k3⟩
    have HK3 : Hid (Kb 0 w w3 ∧ w3.cell? ⟨w.heap.size, 0, none⟩ = some (.slice pa p ca) ∧ w3.cell? ⟨w.heap.size, 1, none⟩ = some (.slice pl q cl) ∧ w3.cell? ⟨w.heap.size, 2, none⟩ = some (.int .i64 T) ∧ w3.cell? ⟨w.heap.size, 3, none⟩ = some (.int .i64 D) ∧ w3.cell? ⟨w.heap.size, 4, none⟩ = some (.int .i64 C)) := (⟨HK2.1.trans k3, k3.cell HK2.2.1, k3.cell HK2.2.2.1, k3.cell HK2.2.2.2.1, k3.cell HK2.2.2.2.2.1, k3.cell HK2.2.2.2.2.2⟩ : _ ∧ _)
    have c0 : w3.cell? ⟨w.heap.size, 0, none⟩ = some (.slice pa p ca) := HK3.2.1
    have c1 : w3.cell? ⟨w.heap.size, 1, none⟩ = some (.slice pl q cl) := HK3.2.2.1
    have c2 : w3.cell? ⟨w.heap.size, 2, none⟩ = some (.int .i64 T) := HK3.2.2.2.1
    have c3 : w3.cell? ⟨w.heap.size, 3, none⟩ = some (.int .i64 D) := HK3.2.2.2.2.1
    have c4 : w3.cell? ⟨w.heap.size, 4, none⟩ = some (.int .i64 C) := HK3.2.2.2.2.2
    obtain ⟨z, hz⟩ : ∃ z, z = dc (Iok p q A L T D C) := ⟨_, rfl⟩
    rw [← hz]
    have HZ : Hid (z = dc (Iok p q A L T D C)) := hz
    clear HK2 HR2 k3 hz
    go_wp2_with fail
    refine (to_inp T D C w3 (HA.1.keep HK3.1) (HA.2.keep HK3.1) HBD.1 HBD.2).mono ?_
    rintro e w4 ⟨vx, vy, rfl, rx, ry, k4⟩
    obtain ⟨px, cx, rfl, -⟩ := id rx
    obtain ⟨py, cy, rfl, -⟩ := id ry
    obtain ⟨w5, hw5⟩ : ∃ w5, w5 = w4.alloc (.cells #[.slice px p cx, .slice py q cy, .int .i64 T, .int .i64 D, .int .i64 C] 41) := ⟨_, rfl⟩
    have k5 : Kb 0 w4 w5 := by rw [hw5]; exact kb_alloc _ _ _
    have b5 : w5.heap[w4.heap.size]? = some (.cells #[.slice px p cx, .slice py q cy, .int .i64 T, .int .i64 D, .int .i64 C] 41 (0, 0)) := by rw [hw5]; exact alloc_new _ _ _
    have kk := k4.trans k5
    have HK5 : Hid (Kb 0 w w5 ∧ (RowB 0 w5 (.slice px p cx) p (fun i => .string (A i)) ∧ RowB 0 w5 (.slice py q cy) q (fun i => .string (L i))) ∧ (w5.cell? ⟨w.heap.size, 0, none⟩ = some (.slice pa p ca) ∧ w5.cell? ⟨w.heap.size, 1, none⟩ = some (.slice pl q cl) ∧ w5.cell? ⟨w.heap.size, 2, none⟩ = some (.int .i64 T) ∧ w5.cell? ⟨w.heap.size, 3, none⟩ = some (.int .i64 D) ∧ w5.cell? ⟨w.heap.size, 4, none⟩ = some (.int .i64 C)) ∧ (w5.cell? ⟨w4.heap.size, 0, none⟩ = some (.slice px p cx) ∧ w5.cell? ⟨w4.heap.size, 1, none⟩ = some (.slice py q cy) ∧ w5.cell? ⟨w4.heap.size, 2, none⟩ = some (.int .i64 T) ∧ w5.cell? ⟨w4.heap.size, 3, none⟩ = some (.int .i64 D) ∧ w5.cell? ⟨w4.heap.size, 4, none⟩ = some (.int .i64 C))) := (⟨HK3.1.trans kk, ⟨rx.keep k5, ry.keep k5⟩, ⟨kk.cell c0, kk.cell c1, kk.cell c2, kk.cell c3, kk.cell c4⟩, ⟨cell_of b5 rfl, cell_of b5 rfl, cell_of b5 rfl, cell_of b5 rfl, cell_of b5 rfl⟩⟩ : _ ∧ _)
    have HW5 : Hid (w5 = w4.alloc (.cells #[.slice px p cx, .slice py q cy, .int .i64 T, .int .i64 D, .int .i64 C] 41)) := hw5
    clear c0 c1 c2 c3 c4 HK3 rx ry k4 k5 b5 kk hw5
    go_wp2_with fail
    rw [← (show w5 = _ from HW5)]
    clear HW5
    refine (im_input T D C w5 HK5.2.1.1.row HK5.2.1.2.row HBD.1 HBD.2).mono ?_
    rintro e w6 ⟨rfl, k6⟩
    rw [← (show z = _ from HZ)]
    have h1 : (z != z) = false := by cases z <;> rfl
    have HK6 : Hid (Kb 0 w w6 ∧ (RowB 0 w6 (.slice pa p ca) p (fun i => .string (A i)) ∧ RowB 0 w6 (.slice pl q cl) q (fun i => .string (L i))) ∧ (RowB 0 w6 (.slice px p cx) p (fun i => .string (A i)) ∧ RowB 0 w6 (.slice py q cy) q (fun i => .string (L i)))) := (⟨HK5.1.trans k6, ⟨HA.1.keep (HK5.1.trans k6), HA.2.keep (HK5.1.trans k6)⟩, ⟨HK5.2.1.1.keep k6, HK5.2.1.2.keep k6⟩⟩ : _ ∧ _)
    have HCC : Hid (∀ W, Kb 0 w6 W → (W.cell? ⟨w.heap.size, 0, none⟩ = some (.slice pa p ca) ∧ W.cell? ⟨w.heap.size, 1, none⟩ = some (.slice pl q cl) ∧ W.cell? ⟨w.heap.size, 2, none⟩ = some (.int .i64 T) ∧ W.cell? ⟨w.heap.size, 3, none⟩ = some (.int .i64 D) ∧ W.cell? ⟨w.heap.size, 4, none⟩ = some (.int .i64 C)) ∧ (W.cell? ⟨w4.heap.size, 0, none⟩ = some (.slice px p cx) ∧ W.cell? ⟨w4.heap.size, 1, none⟩ = some (.slice py q cy) ∧ W.cell? ⟨w4.heap.size, 2, none⟩ = some (.int .i64 T) ∧ W.cell? ⟨w4.heap.size, 3, none⟩ = some (.int .i64 D) ∧ W.cell? ⟨w4.heap.size, 4, none⟩ = some (.int .i64 C))) := (fun W k => ⟨⟨k.cell (k6.cell HK5.2.2.1.1), k.cell (k6.cell HK5.2.2.1.2.1), k.cell (k6.cell HK5.2.2.1.2.2.1), k.cell (k6.cell HK5.2.2.1.2.2.2.1), k.cell (k6.cell HK5.2.2.1.2.2.2.2)⟩, ⟨k.cell (k6.cell HK5.2.2.2.1), k.cell (k6.cell HK5.2.2.2.2.1), k.cell (k6.cell HK5.2.2.2.2.2.1), k.cell (k6.cell HK5.2.2.2.2.2.2.1), k.cell (k6.cell HK5.2.2.2.2.2.2.2)⟩⟩ : ∀ W, _)
    have c9 := (show ∀ W, Kb 0 w6 W → (W.cell? ⟨w.heap.size, 0, none⟩ = some (.slice pa p ca) ∧ W.cell? ⟨w.heap.size, 1, none⟩ = some (.slice pl q cl) ∧ W.cell? ⟨w.heap.size, 2, none⟩ = some (.int .i64 T) ∧ W.cell? ⟨w.heap.size, 3, none⟩ = some (.int .i64 D) ∧ W.cell? ⟨w.heap.size, 4, none⟩ = some (.int .i64 C)) ∧ (W.cell? ⟨w4.heap.size, 0, none⟩ = some (.slice px p cx) ∧ W.cell? ⟨w4.heap.size, 1, none⟩ = some (.slice py q cy) ∧ W.cell? ⟨w4.heap.size, 2, none⟩ = some (.int .i64 T) ∧ W.cell? ⟨w4.heap.size, 3, none⟩ = some (.int .i64 D) ∧ W.cell? ⟨w4.heap.size, 4, none⟩ = some (.int .i64 C)) from HCC) w6 (Kb.refl _ _)
    have HTO : Hid (∀ W, Kb 0 w6 W → Calls Try.prog 13 #[.agg #[.slice pa p ca, .slice pl q cl, .int .i64 T, .int .i64 D, .int .i64 C]] W fun e w' => ∃ v0 v1, e = .returned (.agg #[v0, v1, .int .i64 T, .int .i64 D, .int .i64 C]) ∧ RowB 0 w' v0 p (fun i => .string (A i)) ∧ RowB 0 w' v1 q (fun i => .string (L i)) ∧ Kb 0 W w') := (fun W k => to_inp T D C W (HK6.2.1.1.keep k) (HK6.2.1.2.keep k) HBD.1 HBD.2 : ∀ W, _)
    have HEQ : Hid (∀ W v2 u2, Kb 0 w6 W → RowB 0 W v2 p (fun i => .string (A i)) → RowB 0 W u2 q (fun i => .string (L i)) → Calls Try.prog 15 #[.agg #[.slice px p cx, .slice py q cy, .int .i64 T, .int .i64 D, .int .i64 C], .agg #[v2, u2, .int .i64 T, .int .i64 D, .int .i64 C]] W fun e w' => e = .returned (.bool true) ∧ Kb 0 W w') := (fun W v2 u2 k h2 h3 => eq_inp T D C W (HK6.2.2.1.keep k) (HK6.2.2.2.keep k) h2 h3 HBD.1 HBD.2 : ∀ W v2 u2, _)
    clear HK5 k6 HZ
    cases z
    all_goals
      go_wp2_with fail
      go_region_held_law (fun W' => (W'.cell? ⟨w.heap.size, 0, none⟩ = some (.slice pa p ca) ∧ W'.cell? ⟨w.heap.size, 1, none⟩ = some (.slice pl q cl) ∧ W'.cell? ⟨w.heap.size, 2, none⟩ = some (.int .i64 T) ∧ W'.cell? ⟨w.heap.size, 3, none⟩ = some (.int .i64 D) ∧ W'.cell? ⟨w.heap.size, 4, none⟩ = some (.int .i64 C)) ∧ (W'.cell? ⟨w4.heap.size, 0, none⟩ = some (.slice px p cx) ∧ W'.cell? ⟨w4.heap.size, 1, none⟩ = some (.slice py q cy) ∧ W'.cell? ⟨w4.heap.size, 2, none⟩ = some (.int .i64 T) ∧ W'.cell? ⟨w4.heap.size, 3, none⟩ = some (.int .i64 D) ∧ W'.cell? ⟨w4.heap.size, 4, none⟩ = some (.int .i64 C))) (first | exact s11 | exact s10 | exact c9)
        (first
          | (go_at_call 13; refine ((show ∀ W, Kb 0 w6 W → _ from HTO) _ (by exact Kb.drewN (Kb.refl _ _) 1)).mono ?_; rintro e w10 ⟨v2, u2, rfl, o2, o3, k10⟩; have K10 : Kb 0 w6 w10 := ⟨k10.os, k10.output, k10.size, k10.block⟩; have s10 := (show ∀ W, Kb 0 w6 W → _ from HCC) w10 K10)
          | (go_at_call 15; refine ((show ∀ W v2 u2, _ from HEQ) _ _ _ K10 o2 o3).mono ?_; rintro e w11 ⟨rfl, k11⟩; have K11 : Kb 0 w6 w11 := K10.trans k11; have s11 := (show ∀ W, Kb 0 w6 W → _ from HCC) w11 K11))
      have HB11 : Hid (Kb 0 w w11) := HK6.1.trans K11
      clear c9 HCC HEQ HTO o2 o3 k10 K10 s10 k11 K11 s11
      go_wp2_with fail
      go_ret
      exact ⟨rfl, HB11⟩
end Go.Proofs.Ytieccnkabllamaa.Fo
