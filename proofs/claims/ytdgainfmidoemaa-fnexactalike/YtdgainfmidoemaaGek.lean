import Derived.Test.YtdgainfmidoemaaGej
import Derived.Test.YtdgainfmidoemaaGcd
namespace Go.Proofs.Ytdgainfmidoemaa.Fo
open Go.ChangeShapes Go.WideShapes Go.ChangeAt Go.RowKit
set_option linter.unusedVariables false
set_option maxRecDepth 100000
set_option maxHeartbeats 32000000 in
theorem law_alike {pa pb : Option Addr} {ca cb n n' : Nat} {F F' : Nat → Td} {a b : Gv} {R : Bool} (hsp : ∀ W v v', RowT 0 W v n F → RowT 0 W v' n' F' → Bg n F a → Bg n' F' b → Calls Try.prog 22 #[grv a v, grv b v'] W fun e w' => e = .returned (.bool R) ∧ Kb 0 W w') (him : ∀ W v v', RowT 0 W v n F → RowT 0 W v' n' F' → Bg n F a → Bg n' F' b → Calls Try.prog 23 #[grv a v, grv b v'] W fun e w' => e = .returned (.bool R) ∧ Kb 0 W w') (w : World) (ha : RowT 0 w (.slice pa n ca) n F) (hv : RowT 0 w (.slice pb n' cb) n' F') (hx : (a.x.size : Int) < 140737488355328) (hn : (n : Int) < 140737488355328) (hF : BT F n) (hx' : (b.x.size : Int) < 140737488355328) (hn' : (n' : Int) < 140737488355328) (hF' : BT F' n') :
    Calls Try.prog 6 #[grv a (.slice pa n ca), grv b (.slice pb n' cb)] w fun e w' => e = .returned (.bool true) ∧ Kb 0 w w' := by
  obtain ⟨w0, hw0⟩ : ∃ w0, w0 = (w.alloc (.cells #[.int .i64 a.k, .int .i64 a.m, .string a.x, .int .i64 a.r, (.slice pa n ca)] 26)).alloc (.cells #[.int .i64 b.k, .int .i64 b.m, .string b.x, .int .i64 b.r, (.slice pb n' cb)] 26) := ⟨_, rfl⟩
  have e1 : (w.alloc (.cells #[.int .i64 a.k, .int .i64 a.m, .string a.x, .int .i64 a.r, (.slice pa n ca)] 26)).heap.size = w.heap.size + 1 := World.size_alloc _ _
  have k0 : Kb 0 w w0 := by rw [hw0]; exact kb_alloc2 _ _ _ _
  have b0 : w0.heap[w.heap.size]? = some (.cells #[.int .i64 a.k, .int .i64 a.m, .string a.x, .int .i64 a.r, (.slice pa n ca)] 26 (0, 0)) := by
    rw [hw0, (kb_alloc 0 _ _).block _ (Nat.zero_le _) (by omega)]
    exact alloc_new _ _ _
  have b1 : w0.heap[w.heap.size + 1]? = some (.cells #[.int .i64 b.k, .int .i64 b.m, .string b.x, .int .i64 b.r, (.slice pb n' cb)] 26 (0, 0)) := by
    rw [hw0, ← e1]
    exact alloc_new _ _ _
  have HCX : Hid (∀ W, Kb 0 w0 W → (W.cell? ⟨w.heap.size, 0, none⟩ = some (.int .i64 a.k) ∧ W.cell? ⟨w.heap.size, 1, none⟩ = some (.int .i64 a.m) ∧ W.cell? ⟨w.heap.size, 2, none⟩ = some (.string a.x) ∧ W.cell? ⟨w.heap.size, 3, none⟩ = some (.int .i64 a.r) ∧ W.cell? ⟨w.heap.size, 4, none⟩ = some ((.slice pa n ca))) ∧ W.cell? ⟨w.heap.size + 1, 0, none⟩ = some (.int .i64 b.k) ∧ W.cell? ⟨w.heap.size + 1, 1, none⟩ = some (.int .i64 b.m) ∧ W.cell? ⟨w.heap.size + 1, 2, none⟩ = some (.string b.x) ∧ W.cell? ⟨w.heap.size + 1, 3, none⟩ = some (.int .i64 b.r) ∧ W.cell? ⟨w.heap.size + 1, 4, none⟩ = some ((.slice pb n' cb))) := (fun W k => ⟨⟨k.cell (cell_of b0 rfl), k.cell (cell_of b0 rfl), k.cell (cell_of b0 rfl), k.cell (cell_of b0 rfl), k.cell (cell_of b0 rfl)⟩, k.cell (cell_of b1 rfl), k.cell (cell_of b1 rfl), k.cell (cell_of b1 rfl), k.cell (cell_of b1 rfl), k.cell (cell_of b1 rfl)⟩ : ∀ W, _)
  have HS0 : Hid (Calls Try.prog 9 #[.agg #[.int .i64 a.k, .int .i64 a.m, .string a.x, .int .i64 a.r, (.slice pa n ca)], .int .i64 1048576] w0 (Szd (a.x.size + (n + sm (szT F) n)) 1048576 w0)) := sz_graph w0 1048576 (ha.keep k0) hx hn hF (by omega) (by omega)
  have HS1 : Hid (∀ (W : World) (l : Int), Kb 0 w0 W → 0 ≤ l → l ≤ 1048576 → Calls Try.prog 9 #[.agg #[.int .i64 b.k, .int .i64 b.m, .string b.x, .int .i64 b.r, (.slice pb n' cb)], .int .i64 l] W (Szd (b.x.size + (n' + sm (szT F') n')) l W)) := (fun W l k h0 h1 => sz_graph W l ((hv.keep k0).keep k) hx' hn' hF' h0 h1 : ∀ (W : World) (l : Int), _)
  have HSP : Hid (∀ W v v', RowT 0 W v n F → RowT 0 W v' n' F' → Bg n F a → Bg n' F' b → Calls Try.prog 22 #[.agg #[.int .i64 a.k, .int .i64 a.m, .string a.x, .int .i64 a.r, v], .agg #[.int .i64 b.k, .int .i64 b.m, .string b.x, .int .i64 b.r, v']] W fun e w' => e = .returned (.bool R) ∧ Kb 0 W w') := hsp
  have HIM : Hid (∀ W v v', RowT 0 W v n F → RowT 0 W v' n' F' → Bg n F a → Bg n' F' b → Calls Try.prog 23 #[.agg #[.int .i64 a.k, .int .i64 a.m, .string a.x, .int .i64 a.r, v], .agg #[.int .i64 b.k, .int .i64 b.m, .string b.x, .int .i64 b.r, v']] W fun e w' => e = .returned (.bool R) ∧ Kb 0 W w') := him
  have HA : Hid (RowT 0 w (.slice pa n ca) n F ∧ RowT 0 w (.slice pb n' cb) n' F' ∧ Kb 0 w w0) := (⟨ha, hv, k0⟩ : _ ∧ _)
  have HW0 : Hid (w0 = _) := hw0
  obtain ⟨⟨c0, c1, c2, c3, c4⟩, d0, d1, d2, d3, d4⟩ := (show ∀ W, Kb 0 w0 W → _ from HCX) w0 (Kb.refl _ _)
  clear ha hv hx hn hF hx' hn' hF' hsp him k0 b0 b1 hw0 e1
  unfold grv
  go_enter Try.func6, Try.ntmps6
  go_upto_region 2 with fail
  rw [← (show w0 = _ from HW0)]
  clear HW0
  go_wp2_with fail
  refine (show Calls Try.prog 9 _ w0 _ from HS0).mono ?_
  rintro e w1 ⟨r, rfl, hr1, hr2, hr3, k1⟩
  clear HS0 c0 c1 c2 c3 c4 d0 d1 d2 d3 d4
  rcases Int.lt_or_le r 0 with h | h
  · have HB : Hid (Kb 0 w w1) := (show _ ∧ _ ∧ Kb 0 w w0 from HA).2.2.trans k1
    clear k1 hr1 HSP HIM HA HCX HS1
    go_wp2_with fail
    go_ret
    exact ⟨rfl, HB⟩
  have h' : ¬ r < 0 := by omega
  have HZ1 := (show ∀ (W : World) (l : Int), _ from HS1) w1 r k1 h hr3
  obtain ⟨⟨c0, c1, c2, c3, c4⟩, d0, d1, d2, d3, d4⟩ := (show ∀ W, Kb 0 w0 W → _ from HCX) w1 k1
  have HR1 : Hid (a.x.size + (n + sm (szT F) n) ≤ 1048576 ∧ Kb 0 w0 w1) := (⟨by have := hr1 h; omega, k1⟩ : _ ∧ _)
  clear hr1 k1 HS1
  go_wp2_with fail
  refine HZ1.mono ?_
  rintro e w2 ⟨r2, rfl, hs1, hs2, hs3, k2⟩
  clear HZ1 c0 c1 c2 c3 c4 d0 d1 d2 d3 d4
  have k02 := (show _ ∧ Kb 0 w0 w1 from HR1).2.trans k2
  rcases Int.lt_or_le r2 0 with q | q
  · have HB : Hid (Kb 0 w w2) := (show _ ∧ _ ∧ Kb 0 w w0 from HA).2.2.trans k02
    clear k2 k02 hs1 HSP HIM HA HCX HR1
    go_wp2_with fail
    go_ret
    exact ⟨rfl, HB⟩
  have q' : ¬ r2 < 0 := by omega
  have hbd : Bg n F a := bg_of (show _ ∧ _ from HR1).1
  have hbd2 : Bg n' F' b := bg_of (by have := hs1 q; omega)
  obtain ⟨ha, hv, k0⟩ := (show RowT 0 w (.slice pa n ca) n F ∧ RowT 0 w (.slice pb n' cb) n' F' ∧ Kb 0 w w0 from HA)
  have kw := k0.trans k02
  have HC2 : Hid (∀ W, Kb 0 w2 W → (W.cell? ⟨w.heap.size, 0, none⟩ = some (.int .i64 a.k) ∧ W.cell? ⟨w.heap.size, 1, none⟩ = some (.int .i64 a.m) ∧ W.cell? ⟨w.heap.size, 2, none⟩ = some (.string a.x) ∧ W.cell? ⟨w.heap.size, 3, none⟩ = some (.int .i64 a.r) ∧ W.cell? ⟨w.heap.size, 4, none⟩ = some ((.slice pa n ca))) ∧ W.cell? ⟨w.heap.size + 1, 0, none⟩ = some (.int .i64 b.k) ∧ W.cell? ⟨w.heap.size + 1, 1, none⟩ = some (.int .i64 b.m) ∧ W.cell? ⟨w.heap.size + 1, 2, none⟩ = some (.string b.x) ∧ W.cell? ⟨w.heap.size + 1, 3, none⟩ = some (.int .i64 b.r) ∧ W.cell? ⟨w.heap.size + 1, 4, none⟩ = some ((.slice pb n' cb))) := (fun W k => (show ∀ W, Kb 0 w0 W → _ from HCX) W (k02.trans k) : ∀ W, _)
  have HTA : Hid (∀ W, Kb 0 w2 W → Calls Try.prog 11 #[.agg #[.int .i64 a.k, .int .i64 a.m, .string a.x, .int .i64 a.r, (.slice pa n ca)]] W fun e w' => ∃ v, e = .returned (.agg #[.int .i64 a.k, .int .i64 a.m, .string a.x, .int .i64 a.r, v]) ∧ RowT W.heap.size w' v n F ∧ Kb 0 W w') := (fun W k => to_graph W ((ha.keep kw).keep k) hbd : ∀ W, _)
  have HTB : Hid (∀ W, Kb 0 w2 W → Calls Try.prog 11 #[.agg #[.int .i64 b.k, .int .i64 b.m, .string b.x, .int .i64 b.r, (.slice pb n' cb)]] W fun e w' => ∃ v, e = .returned (.agg #[.int .i64 b.k, .int .i64 b.m, .string b.x, .int .i64 b.r, v]) ∧ RowT W.heap.size w' v n' F' ∧ Kb 0 W w') := (fun W k => to_graph W ((hv.keep kw).keep k) hbd2 : ∀ W, _)
  have HEA : Hid (∀ W v v', RowT 0 W v n F → RowT 0 W v' n F → Calls Try.prog 13 #[.agg #[.int .i64 a.k, .int .i64 a.m, .string a.x, .int .i64 a.r, v], .agg #[.int .i64 a.k, .int .i64 a.m, .string a.x, .int .i64 a.r, v']] W fun e w' => e = .returned (.bool true) ∧ Kb 0 W w') := (fun W v v' h h' => eq_graph W h h' hbd : ∀ W v v', _)
  have HEB : Hid (∀ W v v', RowT 0 W v n' F' → RowT 0 W v' n' F' → Calls Try.prog 13 #[.agg #[.int .i64 b.k, .int .i64 b.m, .string b.x, .int .i64 b.r, v], .agg #[.int .i64 b.k, .int .i64 b.m, .string b.x, .int .i64 b.r, v']] W fun e w' => e = .returned (.bool true) ∧ Kb 0 W w') := (fun W v v' h h' => eq_graph W h h' hbd2 : ∀ W v v', _)
  have HPS : Hid (∀ W v v', RowT 0 W v n F → RowT 0 W v' n' F' → Calls Try.prog 22 #[.agg #[.int .i64 a.k, .int .i64 a.m, .string a.x, .int .i64 a.r, v], .agg #[.int .i64 b.k, .int .i64 b.m, .string b.x, .int .i64 b.r, v']] W fun e w' => e = .returned (.bool R) ∧ Kb 0 W w') := (fun W v v' h h' => (show ∀ W v v', _ from HSP) W v v' h h' hbd hbd2 : ∀ W v v', _)
  have HPI : Hid (∀ W v v', RowT 0 W v n F → RowT 0 W v' n' F' → Calls Try.prog 23 #[.agg #[.int .i64 a.k, .int .i64 a.m, .string a.x, .int .i64 a.r, v], .agg #[.int .i64 b.k, .int .i64 b.m, .string b.x, .int .i64 b.r, v']] W fun e w' => e = .returned (.bool R) ∧ Kb 0 W w') := (fun W v v' h h' => (show ∀ W v v', _ from HIM) W v v' h h' hbd hbd2 : ∀ W v v', _)
  have HKW : Hid (Kb 0 w w2) := kw
  have HS2 : Hid ((w2.cell? ⟨w.heap.size, 0, none⟩ = some (.int .i64 a.k) ∧ w2.cell? ⟨w.heap.size, 1, none⟩ = some (.int .i64 a.m) ∧ w2.cell? ⟨w.heap.size, 2, none⟩ = some (.string a.x) ∧ w2.cell? ⟨w.heap.size, 3, none⟩ = some (.int .i64 a.r) ∧ w2.cell? ⟨w.heap.size, 4, none⟩ = some ((.slice pa n ca))) ∧ w2.cell? ⟨w.heap.size + 1, 0, none⟩ = some (.int .i64 b.k) ∧ w2.cell? ⟨w.heap.size + 1, 1, none⟩ = some (.int .i64 b.m) ∧ w2.cell? ⟨w.heap.size + 1, 2, none⟩ = some (.string b.x) ∧ w2.cell? ⟨w.heap.size + 1, 3, none⟩ = some (.int .i64 b.r) ∧ w2.cell? ⟨w.heap.size + 1, 4, none⟩ = some ((.slice pb n' cb))) := (show ∀ W, Kb 0 w2 W → _ from HC2) w2 (Kb.refl _ _)
  obtain ⟨⟨c0, c1, c2, c3, c4⟩, d0, d1, d2, d3, d4⟩ := (show ∀ W, Kb 0 w2 W → _ from HC2) w2 (Kb.refl _ _)
  clear hs1 k2 k02 hbd hbd2 ha hv k0 kw HA HR1 HSP HIM HCX
  go_wp2_with fail
  go_region_held3 (fun W' => (W'.cell? ⟨w.heap.size, 0, none⟩ = some (.int .i64 a.k) ∧ W'.cell? ⟨w.heap.size, 1, none⟩ = some (.int .i64 a.m) ∧ W'.cell? ⟨w.heap.size, 2, none⟩ = some (.string a.x) ∧ W'.cell? ⟨w.heap.size, 3, none⟩ = some (.int .i64 a.r) ∧ W'.cell? ⟨w.heap.size, 4, none⟩ = some ((.slice pa n ca))) ∧ W'.cell? ⟨w.heap.size + 1, 0, none⟩ = some (.int .i64 b.k) ∧ W'.cell? ⟨w.heap.size + 1, 1, none⟩ = some (.int .i64 b.m) ∧ W'.cell? ⟨w.heap.size + 1, 2, none⟩ = some (.string b.x) ∧ W'.cell? ⟨w.heap.size + 1, 3, none⟩ = some (.int .i64 b.r) ∧ W'.cell? ⟨w.heap.size + 1, 4, none⟩ = some ((.slice pb n' cb))) (first | exact s5 | exact s4 | exact s3 | exact (show (w2.cell? ⟨w.heap.size, 0, none⟩ = some (.int .i64 a.k) ∧ w2.cell? ⟨w.heap.size, 1, none⟩ = some (.int .i64 a.m) ∧ w2.cell? ⟨w.heap.size, 2, none⟩ = some (.string a.x) ∧ w2.cell? ⟨w.heap.size, 3, none⟩ = some (.int .i64 a.r) ∧ w2.cell? ⟨w.heap.size, 4, none⟩ = some ((.slice pa n ca))) ∧ w2.cell? ⟨w.heap.size + 1, 0, none⟩ = some (.int .i64 b.k) ∧ w2.cell? ⟨w.heap.size + 1, 1, none⟩ = some (.int .i64 b.m) ∧ w2.cell? ⟨w.heap.size + 1, 2, none⟩ = some (.string b.x) ∧ w2.cell? ⟨w.heap.size + 1, 3, none⟩ = some (.int .i64 b.r) ∧ w2.cell? ⟨w.heap.size + 1, 4, none⟩ = some ((.slice pb n' cb)) from HS2))
    ((first
      | (go_at_call_of 11 (Value.string a.x); refine ((show ∀ W, Kb 0 w2 W → _ from HTA) _ (by exact Kb.drewN (Kb.refl _ _) 1)).mono ?_; rintro e w3 ⟨v3, rfl, r3, k3⟩; have K3 : Kb 0 w2 w3 := ⟨k3.os, k3.output, k3.size, k3.block⟩; have s3 := (show ∀ W, Kb 0 w2 W → _ from HC2) w3 K3)
      | (go_at_call_of 11 (Value.string b.x); refine ((show ∀ W, Kb 0 w2 W → _ from HTB) _ K3).mono ?_; rintro e w4 ⟨v4, rfl, r4, k4⟩; have K4 : Kb 0 w2 w4 := K3.trans k4; have s4 := (show ∀ W, Kb 0 w2 W → _ from HC2) w4 K4)
      | (go_at_call 22; refine ((show ∀ W v v', _ from HPS) _ _ _ ((r3.mono (Nat.zero_le _)).keep k4) (r4.mono (Nat.zero_le _))).mono ?_; rintro e w5 ⟨rfl, k5⟩; have K5 : Kb 0 w2 w5 := K4.trans k5; have s5 := (show ∀ W, Kb 0 w2 W → _ from HC2) w5 K5)))
  have HK5 : Hid (Kb 0 w2 w5) := K5
  have HT5 := (show ∀ W, Kb 0 w2 W → Calls Try.prog 11 #[.agg #[.int .i64 a.k, .int .i64 a.m, .string a.x, .int .i64 a.r, (.slice pa n ca)]] W fun e w' => ∃ v, e = .returned (.agg #[.int .i64 a.k, .int .i64 a.m, .string a.x, .int .i64 a.r, v]) ∧ RowT W.heap.size w' v n F ∧ Kb 0 W w' from HTA) w5 K5
  clear c0 c1 c2 c3 c4 d0 d1 d2 d3 d4 r3 k3 K3 s3 r4 k4 K4 s4 k5 K5 HPS HS2
  obtain ⟨⟨c0, c1, c2, c3, c4⟩, d0, d1, d2, d3, d4⟩ := s5
  go_wp2_with fail
  refine HT5.mono ?_
  rintro e w6 ⟨vx, rfl, rx, k6⟩
  clear HT5 c0 c1 c2 c3 c4 d0 d1 d2 d3 d4
  obtain ⟨px, qx, rfl, -⟩ := id rx
  obtain ⟨w7, hw7⟩ : ∃ w7, w7 = w6.alloc (.cells #[.int .i64 a.k, .int .i64 a.m, .string a.x, .int .i64 a.r, (.slice px n qx)] 32) := ⟨_, rfl⟩
  have k67 : Kb 0 w6 w7 := by rw [hw7]; exact kb_alloc _ _ _
  have b7 : w7.heap[w6.heap.size]? = some (.cells #[.int .i64 a.k, .int .i64 a.m, .string a.x, .int .i64 a.r, (.slice px n qx)] 32 (0, 0)) := by rw [hw7]; exact alloc_new _ _ _
  have z7 : w7.heap.size = w6.heap.size + 1 := by rw [hw7]; exact World.size_alloc _ _
  obtain ⟨P7, hP7⟩ : ∃ P7, P7 = w6.heap.size := ⟨_, rfl⟩
  rw [← hP7] at b7 z7
  have K7 := ((show Kb 0 w2 w5 from HK5).trans k6).trans k67
  have HK7 : Hid (Kb 0 w2 w7 ∧ w7.heap[P7]? = some (.cells #[.int .i64 a.k, .int .i64 a.m, .string a.x, .int .i64 a.r, (.slice px n qx)] 32 (0, 0)) ∧ RowT 0 w7 (.slice px n qx) n F ∧ P7 < w7.heap.size) := (⟨K7, b7, (rx.mono (Nat.zero_le _)).keep k67, by omega⟩ : _ ∧ _)
  obtain ⟨⟨c0, c1, c2, c3, c4⟩, d0, d1, d2, d3, d4⟩ := (show ∀ W, Kb 0 w2 W → _ from HC2) w7 K7
  have HT7 := (show ∀ W, Kb 0 w2 W → Calls Try.prog 11 #[.agg #[.int .i64 b.k, .int .i64 b.m, .string b.x, .int .i64 b.r, (.slice pb n' cb)]] W fun e w' => ∃ v, e = .returned (.agg #[.int .i64 b.k, .int .i64 b.m, .string b.x, .int .i64 b.r, v]) ∧ RowT W.heap.size w' v n' F' ∧ Kb 0 W w' from HTB) w7 K7
  have HW7 : Hid (w7 = w6.alloc (.cells #[.int .i64 a.k, .int .i64 a.m, .string a.x, .int .i64 a.r, (.slice px n qx)] 32) ∧ P7 = w6.heap.size) := (⟨hw7, hP7⟩ : _ ∧ _)
  clear rx k6 k67 b7 z7 K7 HK5 hw7 hP7
  go_upto_region 10 with fail
  rw [← (show _ ∧ _ from HW7).1, ← (show _ ∧ _ from HW7).2]
  clear HW7
  go_wp2_with fail
  refine HT7.mono ?_
  rintro e w8 ⟨vy, rfl, ry, k8⟩
  clear HT7 c0 c1 c2 c3 c4 d0 d1 d2 d3 d4
  obtain ⟨py, qy, rfl, -⟩ := id ry
  obtain ⟨w9, hw9⟩ : ∃ w9, w9 = w8.alloc (.cells #[.int .i64 b.k, .int .i64 b.m, .string b.x, .int .i64 b.r, (.slice py n' qy)] 32) := ⟨_, rfl⟩
  have k89 : Kb 0 w8 w9 := by rw [hw9]; exact kb_alloc _ _ _
  have b9 : w9.heap[w8.heap.size]? = some (.cells #[.int .i64 b.k, .int .i64 b.m, .string b.x, .int .i64 b.r, (.slice py n' qy)] 32 (0, 0)) := by rw [hw9]; exact alloc_new _ _ _
  obtain ⟨P8, hP8⟩ : ∃ P8, P8 = w8.heap.size := ⟨_, rfl⟩
  rw [← hP8] at b9
  obtain ⟨K7, b7, rx7, z7⟩ := (show Kb 0 w2 w7 ∧ w7.heap[P7]? = some (.cells #[.int .i64 a.k, .int .i64 a.m, .string a.x, .int .i64 a.r, (.slice px n qx)] 32 (0, 0)) ∧ RowT 0 w7 (.slice px n qx) n F ∧ P7 < w7.heap.size from HK7)
  have k79 := k8.trans k89
  have b79 := (k79.block _ (Nat.zero_le _) z7).trans b7
  have x0 : w9.cell? ⟨P7, 0, none⟩ = some (.int .i64 a.k) := cell_of b79 rfl
  have x1 : w9.cell? ⟨P7, 1, none⟩ = some (.int .i64 a.m) := cell_of b79 rfl
  have x2 : w9.cell? ⟨P7, 2, none⟩ = some (.string a.x) := cell_of b79 rfl
  have x3 : w9.cell? ⟨P7, 3, none⟩ = some (.int .i64 a.r) := cell_of b79 rfl
  have x4 : w9.cell? ⟨P7, 4, none⟩ = some ((.slice px n qx)) := cell_of b79 rfl
  have y0 : w9.cell? ⟨P8, 0, none⟩ = some (.int .i64 b.k) := cell_of b9 rfl
  have y1 : w9.cell? ⟨P8, 1, none⟩ = some (.int .i64 b.m) := cell_of b9 rfl
  have y2 : w9.cell? ⟨P8, 2, none⟩ = some (.string b.x) := cell_of b9 rfl
  have y3 : w9.cell? ⟨P8, 3, none⟩ = some (.int .i64 b.r) := cell_of b9 rfl
  have y4 : w9.cell? ⟨P8, 4, none⟩ = some ((.slice py n' qy)) := cell_of b9 rfl
  have ry9 : RowT 0 w9 (.slice py n' qy) n' F' := (ry.mono (Nat.zero_le _)).keep k89
  have HI9 := (show ∀ W v v', RowT 0 W v n F → RowT 0 W v' n' F' → Calls Try.prog 23 #[.agg #[.int .i64 a.k, .int .i64 a.m, .string a.x, .int .i64 a.r, v], .agg #[.int .i64 b.k, .int .i64 b.m, .string b.x, .int .i64 b.r, v']] W fun e w' => e = .returned (.bool R) ∧ Kb 0 W w' from HPI) w9 _ _ (rx7.keep k79) ry9
  have HCY : Hid (∀ W, Kb 0 w9 W → (W.cell? ⟨P7, 0, none⟩ = some (.int .i64 a.k) ∧ W.cell? ⟨P7, 1, none⟩ = some (.int .i64 a.m) ∧ W.cell? ⟨P7, 2, none⟩ = some (.string a.x) ∧ W.cell? ⟨P7, 3, none⟩ = some (.int .i64 a.r) ∧ W.cell? ⟨P7, 4, none⟩ = some ((.slice px n qx))) ∧ (W.cell? ⟨P8, 0, none⟩ = some (.int .i64 b.k) ∧ W.cell? ⟨P8, 1, none⟩ = some (.int .i64 b.m) ∧ W.cell? ⟨P8, 2, none⟩ = some (.string b.x) ∧ W.cell? ⟨P8, 3, none⟩ = some (.int .i64 b.r) ∧ W.cell? ⟨P8, 4, none⟩ = some ((.slice py n' qy))) ∧ ((W.cell? ⟨w.heap.size, 0, none⟩ = some (.int .i64 a.k) ∧ W.cell? ⟨w.heap.size, 1, none⟩ = some (.int .i64 a.m) ∧ W.cell? ⟨w.heap.size, 2, none⟩ = some (.string a.x) ∧ W.cell? ⟨w.heap.size, 3, none⟩ = some (.int .i64 a.r) ∧ W.cell? ⟨w.heap.size, 4, none⟩ = some ((.slice pa n ca))) ∧ W.cell? ⟨w.heap.size + 1, 0, none⟩ = some (.int .i64 b.k) ∧ W.cell? ⟨w.heap.size + 1, 1, none⟩ = some (.int .i64 b.m) ∧ W.cell? ⟨w.heap.size + 1, 2, none⟩ = some (.string b.x) ∧ W.cell? ⟨w.heap.size + 1, 3, none⟩ = some (.int .i64 b.r) ∧ W.cell? ⟨w.heap.size + 1, 4, none⟩ = some ((.slice pb n' cb))) ∧ RowT 0 W (.slice px n qx) n F ∧ RowT 0 W (.slice py n' qy) n' F' ∧ Kb 0 w2 W) := (fun W k => ⟨⟨k.cell (cell_of b79 rfl), k.cell (cell_of b79 rfl), k.cell (cell_of b79 rfl), k.cell (cell_of b79 rfl), k.cell (cell_of b79 rfl)⟩, ⟨k.cell (cell_of b9 rfl), k.cell (cell_of b9 rfl), k.cell (cell_of b9 rfl), k.cell (cell_of b9 rfl), k.cell (cell_of b9 rfl)⟩, (show ∀ W, Kb 0 w2 W → _ from HC2) W ((K7.trans k79).trans k), (rx7.keep k79).keep k, ry9.keep k, (K7.trans k79).trans k⟩ : ∀ W, _)
  have HW9 : Hid (w9 = w8.alloc (.cells #[.int .i64 b.k, .int .i64 b.m, .string b.x, .int .i64 b.r, (.slice py n' qy)] 32) ∧ P8 = w8.heap.size) := (⟨hw9, hP8⟩ : _ ∧ _)
  clear ry k8 k89 b9 K7 b7 rx7 z7 k79 b79 ry9 HK7 hw9 hP8 HPI
  go_upto_region 11 with fail
  rw [← (show _ ∧ _ from HW9).1, ← (show _ ∧ _ from HW9).2]
  clear HW9
  go_wp2_with fail
  refine HI9.mono ?_
  rintro e w10 ⟨rfl, k10⟩
  clear HI9 x0 x1 x2 x3 x4 y0 y1 y2 y3 y4
  have hRR : (R != R) = false := by cases R <;> rfl
  obtain ⟨⟨x0, x1, x2, x3, x4⟩, ⟨y0, y1, y2, y3, y4⟩, ⟨⟨c0, c1, c2, c3, c4⟩, d0, d1, d2, d3, d4⟩, _, _, _⟩ := (show ∀ W, Kb 0 w9 W → _ from HCY) w10 k10
  have HK10 : Hid (Kb 0 w9 w10) := k10
  have HQ10 : Hid ((w10.cell? ⟨P7, 0, none⟩ = some (.int .i64 a.k) ∧ w10.cell? ⟨P7, 1, none⟩ = some (.int .i64 a.m) ∧ w10.cell? ⟨P7, 2, none⟩ = some (.string a.x) ∧ w10.cell? ⟨P7, 3, none⟩ = some (.int .i64 a.r) ∧ w10.cell? ⟨P7, 4, none⟩ = some ((.slice px n qx))) ∧ w10.cell? ⟨w.heap.size, 0, none⟩ = some (.int .i64 a.k) ∧ w10.cell? ⟨w.heap.size, 1, none⟩ = some (.int .i64 a.m) ∧ w10.cell? ⟨w.heap.size, 2, none⟩ = some (.string a.x) ∧ w10.cell? ⟨w.heap.size, 3, none⟩ = some (.int .i64 a.r) ∧ w10.cell? ⟨w.heap.size, 4, none⟩ = some ((.slice pa n ca))) := (⟨⟨x0, x1, x2, x3, x4⟩, ⟨c0, c1, c2, c3, c4⟩⟩ : _ ∧ _)
  have HQA : Hid (∀ W, Kb 0 w9 W → (W.cell? ⟨P7, 0, none⟩ = some (.int .i64 a.k) ∧ W.cell? ⟨P7, 1, none⟩ = some (.int .i64 a.m) ∧ W.cell? ⟨P7, 2, none⟩ = some (.string a.x) ∧ W.cell? ⟨P7, 3, none⟩ = some (.int .i64 a.r) ∧ W.cell? ⟨P7, 4, none⟩ = some ((.slice px n qx))) ∧ W.cell? ⟨w.heap.size, 0, none⟩ = some (.int .i64 a.k) ∧ W.cell? ⟨w.heap.size, 1, none⟩ = some (.int .i64 a.m) ∧ W.cell? ⟨w.heap.size, 2, none⟩ = some (.string a.x) ∧ W.cell? ⟨w.heap.size, 3, none⟩ = some (.int .i64 a.r) ∧ W.cell? ⟨w.heap.size, 4, none⟩ = some ((.slice pa n ca))) := (fun W k => ⟨((show ∀ W, Kb 0 w9 W → _ from HCY) W k).1, ((show ∀ W, Kb 0 w9 W → _ from HCY) W k).2.2.1.1⟩ : ∀ W, _)
  have HQB : Hid (∀ W, Kb 0 w9 W → (W.cell? ⟨P8, 0, none⟩ = some (.int .i64 b.k) ∧ W.cell? ⟨P8, 1, none⟩ = some (.int .i64 b.m) ∧ W.cell? ⟨P8, 2, none⟩ = some (.string b.x) ∧ W.cell? ⟨P8, 3, none⟩ = some (.int .i64 b.r) ∧ W.cell? ⟨P8, 4, none⟩ = some ((.slice py n' qy))) ∧ W.cell? ⟨w.heap.size + 1, 0, none⟩ = some (.int .i64 b.k) ∧ W.cell? ⟨w.heap.size + 1, 1, none⟩ = some (.int .i64 b.m) ∧ W.cell? ⟨w.heap.size + 1, 2, none⟩ = some (.string b.x) ∧ W.cell? ⟨w.heap.size + 1, 3, none⟩ = some (.int .i64 b.r) ∧ W.cell? ⟨w.heap.size + 1, 4, none⟩ = some ((.slice pb n' cb))) := (fun W k => ⟨((show ∀ W, Kb 0 w9 W → _ from HCY) W k).2.1, ((show ∀ W, Kb 0 w9 W → _ from HCY) W k).2.2.1.2⟩ : ∀ W, _)
  have HTW : Hid (∀ W, Kb 0 w9 W → Calls Try.prog 11 #[.agg #[.int .i64 a.k, .int .i64 a.m, .string a.x, .int .i64 a.r, (.slice pa n ca)]] W fun e w' => ∃ v, e = .returned (.agg #[.int .i64 a.k, .int .i64 a.m, .string a.x, .int .i64 a.r, v]) ∧ RowT W.heap.size w' v n F ∧ Kb 0 W w') := (fun W k => (show ∀ W, Kb 0 w2 W → Calls Try.prog 11 #[.agg #[.int .i64 a.k, .int .i64 a.m, .string a.x, .int .i64 a.r, (.slice pa n ca)]] W fun e w' => ∃ v, e = .returned (.agg #[.int .i64 a.k, .int .i64 a.m, .string a.x, .int .i64 a.r, v]) ∧ RowT W.heap.size w' v n F ∧ Kb 0 W w' from HTA) W ((show ∀ W, Kb 0 w9 W → _ from HCY) W k).2.2.2.2.2 : ∀ W, _)
  have HTV : Hid (∀ W, Kb 0 w9 W → Calls Try.prog 11 #[.agg #[.int .i64 b.k, .int .i64 b.m, .string b.x, .int .i64 b.r, (.slice pb n' cb)]] W fun e w' => ∃ v, e = .returned (.agg #[.int .i64 b.k, .int .i64 b.m, .string b.x, .int .i64 b.r, v]) ∧ RowT W.heap.size w' v n' F' ∧ Kb 0 W w') := (fun W k => (show ∀ W, Kb 0 w2 W → Calls Try.prog 11 #[.agg #[.int .i64 b.k, .int .i64 b.m, .string b.x, .int .i64 b.r, (.slice pb n' cb)]] W fun e w' => ∃ v, e = .returned (.agg #[.int .i64 b.k, .int .i64 b.m, .string b.x, .int .i64 b.r, v]) ∧ RowT W.heap.size w' v n' F' ∧ Kb 0 W w' from HTB) W ((show ∀ W, Kb 0 w9 W → _ from HCY) W k).2.2.2.2.2 : ∀ W, _)
  have HXW : Hid (∀ W v2, Kb 0 w9 W → RowT 0 W v2 n F → Calls Try.prog 13 #[.agg #[.int .i64 a.k, .int .i64 a.m, .string a.x, .int .i64 a.r, (.slice px n qx)], .agg #[.int .i64 a.k, .int .i64 a.m, .string a.x, .int .i64 a.r, v2]] W fun e w' => e = .returned (.bool true) ∧ Kb 0 W w') := (fun W v2 k h2 => (show ∀ W v v', RowT 0 W v n F → RowT 0 W v' n F → Calls Try.prog 13 #[.agg #[.int .i64 a.k, .int .i64 a.m, .string a.x, .int .i64 a.r, v], .agg #[.int .i64 a.k, .int .i64 a.m, .string a.x, .int .i64 a.r, v']] W fun e w' => e = .returned (.bool true) ∧ Kb 0 W w' from HEA) W _ _ ((show ∀ W, Kb 0 w9 W → _ from HCY) W k).2.2.2.1 h2 : ∀ W v2, _)
  have HYW : Hid (∀ W v2, Kb 0 w9 W → RowT 0 W v2 n' F' → Calls Try.prog 13 #[.agg #[.int .i64 b.k, .int .i64 b.m, .string b.x, .int .i64 b.r, (.slice py n' qy)], .agg #[.int .i64 b.k, .int .i64 b.m, .string b.x, .int .i64 b.r, v2]] W fun e w' => e = .returned (.bool true) ∧ Kb 0 W w') := (fun W v2 k h2 => (show ∀ W v v', RowT 0 W v n' F' → RowT 0 W v' n' F' → Calls Try.prog 13 #[.agg #[.int .i64 b.k, .int .i64 b.m, .string b.x, .int .i64 b.r, v], .agg #[.int .i64 b.k, .int .i64 b.m, .string b.x, .int .i64 b.r, v']] W fun e w' => e = .returned (.bool true) ∧ Kb 0 W w' from HEB) W _ _ ((show ∀ W, Kb 0 w9 W → _ from HCY) W k).2.2.2.2.1 h2 : ∀ W v2, _)
  have HFW : Hid (∀ W, Kb 0 w9 W → Kb 0 w W) := (fun W k => (show Kb 0 w w2 from HKW).trans ((show ∀ W, Kb 0 w9 W → _ from HCY) W k).2.2.2.2.2 : ∀ W, _)
  clear HCY HTA HTB HEA HEB HC2 HKW k10 y0 y1 y2 y3 y4 d0 d1 d2 d3 d4
  go_wp2_with fail
  go_region_held3 (fun W' => (W'.cell? ⟨P7, 0, none⟩ = some (.int .i64 a.k) ∧ W'.cell? ⟨P7, 1, none⟩ = some (.int .i64 a.m) ∧ W'.cell? ⟨P7, 2, none⟩ = some (.string a.x) ∧ W'.cell? ⟨P7, 3, none⟩ = some (.int .i64 a.r) ∧ W'.cell? ⟨P7, 4, none⟩ = some ((.slice px n qx))) ∧ W'.cell? ⟨w.heap.size, 0, none⟩ = some (.int .i64 a.k) ∧ W'.cell? ⟨w.heap.size, 1, none⟩ = some (.int .i64 a.m) ∧ W'.cell? ⟨w.heap.size, 2, none⟩ = some (.string a.x) ∧ W'.cell? ⟨w.heap.size, 3, none⟩ = some (.int .i64 a.r) ∧ W'.cell? ⟨w.heap.size, 4, none⟩ = some ((.slice pa n ca))) (first | exact s12 | exact s11 | exact (show (w10.cell? ⟨P7, 0, none⟩ = some (.int .i64 a.k) ∧ w10.cell? ⟨P7, 1, none⟩ = some (.int .i64 a.m) ∧ w10.cell? ⟨P7, 2, none⟩ = some (.string a.x) ∧ w10.cell? ⟨P7, 3, none⟩ = some (.int .i64 a.r) ∧ w10.cell? ⟨P7, 4, none⟩ = some ((.slice px n qx))) ∧ w10.cell? ⟨w.heap.size, 0, none⟩ = some (.int .i64 a.k) ∧ w10.cell? ⟨w.heap.size, 1, none⟩ = some (.int .i64 a.m) ∧ w10.cell? ⟨w.heap.size, 2, none⟩ = some (.string a.x) ∧ w10.cell? ⟨w.heap.size, 3, none⟩ = some (.int .i64 a.r) ∧ w10.cell? ⟨w.heap.size, 4, none⟩ = some ((.slice pa n ca)) from HQ10))
    ((first
      | (go_at_call 11; refine ((show ∀ W, Kb 0 w9 W → _ from HTW) _ (by exact Kb.drewN (show Kb 0 w9 w10 from HK10) 1)).mono ?_; rintro e w11 ⟨v2, rfl, o2, k11⟩; have K11 : Kb 0 w9 w11 := (show Kb 0 w9 w10 from HK10).trans ⟨k11.os, k11.output, k11.size, k11.block⟩; have s11 := (show ∀ W, Kb 0 w9 W → _ from HQA) w11 K11)
      | (go_at_call 13; refine ((show ∀ W v2, _ from HXW) _ _ K11 (o2.mono (Nat.zero_le _))).mono ?_; rintro e w12 ⟨rfl, k12⟩; have K12 : Kb 0 w9 w12 := K11.trans k12; have s12 := (show ∀ W, Kb 0 w9 W → _ from HQA) w12 K12)))
  have HK12 : Hid (Kb 0 w9 w12) := K12
  have HQ12 : Hid ((w12.cell? ⟨P8, 0, none⟩ = some (.int .i64 b.k) ∧ w12.cell? ⟨P8, 1, none⟩ = some (.int .i64 b.m) ∧ w12.cell? ⟨P8, 2, none⟩ = some (.string b.x) ∧ w12.cell? ⟨P8, 3, none⟩ = some (.int .i64 b.r) ∧ w12.cell? ⟨P8, 4, none⟩ = some ((.slice py n' qy))) ∧ w12.cell? ⟨w.heap.size + 1, 0, none⟩ = some (.int .i64 b.k) ∧ w12.cell? ⟨w.heap.size + 1, 1, none⟩ = some (.int .i64 b.m) ∧ w12.cell? ⟨w.heap.size + 1, 2, none⟩ = some (.string b.x) ∧ w12.cell? ⟨w.heap.size + 1, 3, none⟩ = some (.int .i64 b.r) ∧ w12.cell? ⟨w.heap.size + 1, 4, none⟩ = some ((.slice pb n' cb))) := (show ∀ W, Kb 0 w9 W → _ from HQB) w12 K12
  clear x0 x1 x2 x3 x4 c0 c1 c2 c3 c4 o2 k11 K11 s11 k12 s12 HTW HXW HQA HQ10
  obtain ⟨⟨y0, y1, y2, y3, y4⟩, d0, d1, d2, d3, d4⟩ := (show ∀ W, Kb 0 w9 W → _ from HQB) w12 K12
  clear K12
  go_wp2_with fail
  go_region_held3 (fun W' => (W'.cell? ⟨P8, 0, none⟩ = some (.int .i64 b.k) ∧ W'.cell? ⟨P8, 1, none⟩ = some (.int .i64 b.m) ∧ W'.cell? ⟨P8, 2, none⟩ = some (.string b.x) ∧ W'.cell? ⟨P8, 3, none⟩ = some (.int .i64 b.r) ∧ W'.cell? ⟨P8, 4, none⟩ = some ((.slice py n' qy))) ∧ W'.cell? ⟨w.heap.size + 1, 0, none⟩ = some (.int .i64 b.k) ∧ W'.cell? ⟨w.heap.size + 1, 1, none⟩ = some (.int .i64 b.m) ∧ W'.cell? ⟨w.heap.size + 1, 2, none⟩ = some (.string b.x) ∧ W'.cell? ⟨w.heap.size + 1, 3, none⟩ = some (.int .i64 b.r) ∧ W'.cell? ⟨w.heap.size + 1, 4, none⟩ = some ((.slice pb n' cb))) (first | exact s14 | exact s13 | exact (show (w12.cell? ⟨P8, 0, none⟩ = some (.int .i64 b.k) ∧ w12.cell? ⟨P8, 1, none⟩ = some (.int .i64 b.m) ∧ w12.cell? ⟨P8, 2, none⟩ = some (.string b.x) ∧ w12.cell? ⟨P8, 3, none⟩ = some (.int .i64 b.r) ∧ w12.cell? ⟨P8, 4, none⟩ = some ((.slice py n' qy))) ∧ w12.cell? ⟨w.heap.size + 1, 0, none⟩ = some (.int .i64 b.k) ∧ w12.cell? ⟨w.heap.size + 1, 1, none⟩ = some (.int .i64 b.m) ∧ w12.cell? ⟨w.heap.size + 1, 2, none⟩ = some (.string b.x) ∧ w12.cell? ⟨w.heap.size + 1, 3, none⟩ = some (.int .i64 b.r) ∧ w12.cell? ⟨w.heap.size + 1, 4, none⟩ = some ((.slice pb n' cb)) from HQ12))
    ((first
      | (go_at_call 11; refine ((show ∀ W, Kb 0 w9 W → _ from HTV) _ (by exact Kb.drewN (show Kb 0 w9 w12 from HK12) 1)).mono ?_; rintro e w13 ⟨v2, rfl, o2, k13⟩; have K13 : Kb 0 w9 w13 := (show Kb 0 w9 w12 from HK12).trans ⟨k13.os, k13.output, k13.size, k13.block⟩; have s13 := (show ∀ W, Kb 0 w9 W → _ from HQB) w13 K13)
      | (go_at_call 13; refine ((show ∀ W v2, _ from HYW) _ _ K13 (o2.mono (Nat.zero_le _))).mono ?_; rintro e w14 ⟨rfl, k14⟩; have K14 : Kb 0 w9 w14 := K13.trans k14; have s14 := (show ∀ W, Kb 0 w9 W → _ from HQB) w14 K14)))
  have HF : Hid (Kb 0 w w14) := (show ∀ W, Kb 0 w9 W → _ from HFW) w14 K14
  clear y0 y1 y2 y3 y4 d0 d1 d2 d3 d4 o2 k13 K13 s13 k14 s14 K14 HTV HYW HQB HQ12 HFW
  go_wp2_with fail
  go_ret
  exact ⟨rfl, HF⟩
end Go.Proofs.Ytdgainfmidoemaa.Fo
