import Derived.Test.YtdgainfmidoemaaGee
import Derived.Test.YtdgainfmidoemaaGeg
import Derived.Deep.RegionHeld3
namespace Go.Proofs.Ytdgainfmidoemaa.Fo
open Go.ChangeShapes Go.WideShapes Go.ChangeAt Go.RowKit
set_option linter.unusedVariables false
set_option maxRecDepth 100000
set_option maxHeartbeats 32000000 in
theorem law_canon {pa : Option Addr} {ca n m : Nat} {F Fc : Nat → Td} {a A : Gv} (hsp : ∀ W v, RowT 0 W v n F → Bg n F a → Calls Try.prog 18 #[grv a v] W fun e w' => ∃ v', e = .returned (grv A v') ∧ RowT W.heap.size w' v' m Fc ∧ Kb 0 W w') (him : ∀ W v, RowT 0 W v n F → Bg n F a → Calls Try.prog 19 #[grv a v] W fun e w' => ∃ v', e = .returned (grv A v') ∧ RowTX W.heap.size w' v' m Fc ∧ Kb 0 W w') (hbc : Bg n F a → Bg m Fc A) (hsc : sm (fun i => 1 + 4 * (Fc i).c) m ≤ 1000000) (w : World) (ha : RowT 0 w (.slice pa n ca) n F) (hx : (a.x.size : Int) < 140737488355328) (hn : (n : Int) < 140737488355328) (hF : BT F n) :
    Calls Try.prog 5 #[grv a (.slice pa n ca)] w fun e w' => e = .returned (.bool true) ∧ Kb 0 w w' := by
  obtain ⟨w0, hw0⟩ : ∃ w0, w0 = w.alloc (.cells #[.int .i64 a.k, .int .i64 a.m, .string a.x, .int .i64 a.r, (.slice pa n ca)] 26) := ⟨_, rfl⟩
  have k0 : Kb 0 w w0 := by rw [hw0]; exact kb_alloc _ _ _
  have b0 : w0.heap[w.heap.size]? = some (.cells #[.int .i64 a.k, .int .i64 a.m, .string a.x, .int .i64 a.r, (.slice pa n ca)] 26 (0, 0)) := by rw [hw0]; exact alloc_new _ _ _
  have z0 : w0.heap.size = w.heap.size + 1 := by rw [hw0]; exact World.size_alloc _ _
  have HS0 : Hid (Calls Try.prog 9 #[.agg #[.int .i64 a.k, .int .i64 a.m, .string a.x, .int .i64 a.r, (.slice pa n ca)], .int .i64 1048576] w0 (Szd (a.x.size + (n + sm (szT F) n)) 1048576 w0)) := sz_graph w0 1048576 (ha.keep k0) hx hn hF (by omega) (by omega)
  have HSP : Hid (∀ W v, RowT 0 W v n F → Bg n F a → Calls Try.prog 18 #[.agg #[.int .i64 a.k, .int .i64 a.m, .string a.x, .int .i64 a.r, v]] W fun e w' => ∃ v', e = .returned (.agg #[.int .i64 A.k, .int .i64 A.m, .string A.x, .int .i64 A.r, v']) ∧ RowT W.heap.size w' v' m Fc ∧ Kb 0 W w') := hsp
  have HIM : Hid (∀ W v, RowT 0 W v n F → Bg n F a → Calls Try.prog 19 #[.agg #[.int .i64 a.k, .int .i64 a.m, .string a.x, .int .i64 a.r, v]] W fun e w' => ∃ v', e = .returned (.agg #[.int .i64 A.k, .int .i64 A.m, .string A.x, .int .i64 A.r, v']) ∧ RowTX W.heap.size w' v' m Fc ∧ Kb 0 W w') := him
  have HW0 : Hid (w0 = w.alloc (.cells #[.int .i64 a.k, .int .i64 a.m, .string a.x, .int .i64 a.r, (.slice pa n ca)] 26)) := hw0
  have HBX : Hid (Kb 0 w w0 ∧ w0.heap[w.heap.size]? = some (.cells #[.int .i64 a.k, .int .i64 a.m, .string a.x, .int .i64 a.r, (.slice pa n ca)] 26 (0, 0)) ∧ w0.heap.size = w.heap.size + 1 ∧ RowT 0 w (.slice pa n ca) n F ∧ (Bg n F a → Bg m Fc A) ∧ sm (fun i => 1 + 4 * (Fc i).c) m ≤ 1000000) := (⟨k0, b0, z0, ha, hbc, hsc⟩ : _ ∧ _)
  clear ha hx hn hF hsp him k0 b0 z0 hw0 hbc hsc
  unfold grv
  go_enter Try.func5, Try.ntmps5
  go_wp2_with fail
  rw [← (show w0 = _ from HW0)]
  clear HW0
  refine (show Calls Try.prog 9 _ w0 _ from HS0).mono ?_
  rintro e w1 ⟨r, rfl, hr1, hr2, hr3, k1⟩
  clear HS0
  obtain ⟨k0, b0, z0, ha, hbc, hsc⟩ := (show Kb 0 w w0 ∧ w0.heap[w.heap.size]? = some (.cells #[.int .i64 a.k, .int .i64 a.m, .string a.x, .int .i64 a.r, (.slice pa n ca)] 26 (0, 0)) ∧ w0.heap.size = w.heap.size + 1 ∧ RowT 0 w (.slice pa n ca) n F ∧ (Bg n F a → Bg m Fc A) ∧ sm (fun i => 1 + 4 * (Fc i).c) m ≤ 1000000 from HBX)
  have kw1 := k0.trans k1
  rcases Int.lt_or_le r 0 with h | h
  · have HB : Hid (Kb 0 w w1) := kw1
    clear k1 hr1 HSP HIM HBX k0 b0 kw1 z0 ha hbc hsc
    go_wp2_with fail
    go_ret
    exact ⟨rfl, HB⟩
  have h' : ¬ r < 0 := by omega
  have hbd : Bg n F a := bg_of (by have := hr1 h; omega)
  have hbm := hbc hbd
  have hsx : sm (fun i => 1 + 4 * (F i).c) n ≤ 5000000 := by have := hr1 h; have := sm_four F n; omega
  have bx1 : w1.heap[w.heap.size]? = some (.cells #[.int .i64 a.k, .int .i64 a.m, .string a.x, .int .i64 a.r, (.slice pa n ca)] 26 (0, 0)) := (k1.block _ (Nat.zero_le _) (by omega)).trans b0
  have HTO : Hid (∀ W, Kb 0 w1 W → Calls Try.prog 11 #[.agg #[.int .i64 a.k, .int .i64 a.m, .string a.x, .int .i64 a.r, .slice pa n ca]] W fun e w' => ∃ v', e = .returned (.agg #[.int .i64 a.k, .int .i64 a.m, .string a.x, .int .i64 a.r, v']) ∧ RowTX W.heap.size w' v' n F ∧ Kb 0 W w') := (fun W k => to_graph2 W (fun W' k' => to_things2 W' (((ha.keep kw1).keep k).keep k') hbd.hn (fun i hi => hbd.hc i hi)) : ∀ W, _)
  have HEQ : Hid (∀ W v v', RowT 0 W v m Fc → RowT 0 W v' m Fc → Calls Try.prog 13 #[.agg #[.int .i64 A.k, .int .i64 A.m, .string A.x, .int .i64 A.r, v], .agg #[.int .i64 A.k, .int .i64 A.m, .string A.x, .int .i64 A.r, v']] W fun e w' => e = .returned (.bool true) ∧ Kb 0 W w') := (fun W v v' h h' => eq_graph W h h' hbm : ∀ W v v', _)
  have HEX : Hid (∀ W v v', RowT 0 W v n F → RowT 0 W v' n F → Calls Try.prog 13 #[.agg #[.int .i64 a.k, .int .i64 a.m, .string a.x, .int .i64 a.r, v], .agg #[.int .i64 a.k, .int .i64 a.m, .string a.x, .int .i64 a.r, v']] W fun e w' => e = .returned (.bool true) ∧ Kb 0 W w') := (fun W v v' h h' => eq_graph W h h' hbd : ∀ W v v', _)
  have HBD : Hid (Bg n F a ∧ Bg m Fc A ∧ sm (fun i => 1 + 4 * (F i).c) n ≤ 5000000 ∧ sm (fun i => 1 + 4 * (Fc i).c) m ≤ 1000000 ∧ Kb 0 w w1 ∧ w1.heap[w.heap.size]? = some (.cells #[.int .i64 a.k, .int .i64 a.m, .string a.x, .int .i64 a.r, (.slice pa n ca)] 26 (0, 0)) ∧ w.heap.size < w1.heap.size) := (⟨hbd, hbm, hsx, hsc, kw1, bx1, by have := k1.size; omega⟩ : _ ∧ _)
  have HBK : Hid (∀ W, Kb 0 w1 W → W.cell? ⟨w.heap.size, 0, none⟩ = some (.int .i64 a.k) ∧ W.cell? ⟨w.heap.size, 1, none⟩ = some (.int .i64 a.m) ∧ W.cell? ⟨w.heap.size, 2, none⟩ = some (.string a.x) ∧ W.cell? ⟨w.heap.size, 3, none⟩ = some (.int .i64 a.r) ∧ W.cell? ⟨w.heap.size, 4, none⟩ = some ((.slice pa n ca))) := (fun W k => ⟨k.cell (cell_of bx1 rfl), k.cell (cell_of bx1 rfl), k.cell (cell_of bx1 rfl), k.cell (cell_of bx1 rfl), k.cell (cell_of bx1 rfl)⟩ : ∀ W, _)
  obtain ⟨c0, c1, c2, c3, c4⟩ := (show ∀ W, Kb 0 w1 W → _ from HBK) w1 (Kb.refl _ _)
  have HT1 := (show ∀ W, Kb 0 w1 W → Calls Try.prog 11 #[.agg #[.int .i64 a.k, .int .i64 a.m, .string a.x, .int .i64 a.r, .slice pa n ca]] W fun e w' => ∃ v', e = .returned (.agg #[.int .i64 a.k, .int .i64 a.m, .string a.x, .int .i64 a.r, v']) ∧ RowTX W.heap.size w' v' n F ∧ Kb 0 W w' from HTO) w1 (Kb.refl _ _)
  clear hr1 k1 HBX k0 b0 kw1 ha hbc hsc hbd hbm hsx bx1 z0
  go_wp2_with fail
  refine HT1.mono ?_
  rintro e w2 ⟨v1, rfl, r1, k2⟩
  clear HT1 c0 c1 c2 c3 c4
  have HS2 := (show ∀ W v, RowT 0 W v n F → Bg n F a → Calls Try.prog 18 #[.agg #[.int .i64 a.k, .int .i64 a.m, .string a.x, .int .i64 a.r, v]] W fun e w' => ∃ v', e = .returned (.agg #[.int .i64 A.k, .int .i64 A.m, .string A.x, .int .i64 A.r, v']) ∧ RowT W.heap.size w' v' m Fc ∧ Kb 0 W w' from HSP) w2 _ (r1.1.mono (Nat.zero_le _)) (show Bg n F a ∧ _ from HBD).1
  obtain ⟨p1, q1, rfl, -⟩ := id r1.1
  clear r1
  go_wp2_with fail
  refine HS2.mono ?_
  rintro e w3 ⟨vw, rfl, rw3, k3⟩
  clear HS2 HSP
  obtain ⟨pw, qw, rfl, -⟩ := id rw3
  obtain ⟨w4, hw4⟩ : ∃ w4, w4 = w3.alloc (.cells #[.int .i64 A.k, .int .i64 A.m, .string A.x, .int .i64 A.r, (.slice pw m qw)] 32) := ⟨_, rfl⟩
  have k34 : Kb 0 w3 w4 := by rw [hw4]; exact kb_alloc _ _ _
  have b4 : w4.heap[w3.heap.size]? = some (.cells #[.int .i64 A.k, .int .i64 A.m, .string A.x, .int .i64 A.r, (.slice pw m qw)] 32 (0, 0)) := by rw [hw4]; exact alloc_new _ _ _
  have z4 : w4.heap.size = w3.heap.size + 1 := by rw [hw4]; exact World.size_alloc _ _
  have k14 : Kb 0 w1 w4 := (k2.trans k3).trans k34
  obtain ⟨P4, hP4⟩ : ∃ P4, P4 = w3.heap.size := ⟨_, rfl⟩
  rw [← hP4] at b4 z4
  have HK4 : Hid (Kb 0 w1 w4 ∧ w4.heap[P4]? = some (.cells #[.int .i64 A.k, .int .i64 A.m, .string A.x, .int .i64 A.r, (.slice pw m qw)] 32 (0, 0)) ∧ w4.heap.size = P4 + 1 ∧ RowT 0 w4 (.slice pw m qw) m Fc) := (⟨k14, b4, z4, (rw3.mono (Nat.zero_le _)).keep k34⟩ : _ ∧ _)
  obtain ⟨c0, c1, c2, c3, c4⟩ := (show ∀ W, Kb 0 w1 W → _ from HBK) w4 k14
  have HT2 := (show ∀ W, Kb 0 w1 W → Calls Try.prog 11 #[.agg #[.int .i64 a.k, .int .i64 a.m, .string a.x, .int .i64 a.r, .slice pa n ca]] W fun e w' => ∃ v', e = .returned (.agg #[.int .i64 a.k, .int .i64 a.m, .string a.x, .int .i64 a.r, v']) ∧ RowTX W.heap.size w' v' n F ∧ Kb 0 W w' from HTO) w4 k14
  have HW4 : Hid (w4 = w3.alloc (.cells #[.int .i64 A.k, .int .i64 A.m, .string A.x, .int .i64 A.r, (.slice pw m qw)] 32) ∧ P4 = w3.heap.size) := (⟨hw4, hP4⟩ : _ ∧ _)
  clear rw3 k2 k3 k34 b4 z4 k14 hw4 hP4
  go_upto_region 6 with fail
  rw [← (show _ ∧ _ from HW4).1, ← (show _ ∧ _ from HW4).2]
  clear HW4
  go_wp2_with fail
  refine HT2.mono ?_
  rintro e w5 ⟨vx, rfl, rx5, k5⟩
  clear HT2 c0 c1 c2 c3 c4
  obtain ⟨px, qx, rfl, -⟩ := id rx5.1
  obtain ⟨w6, hw6⟩ : ∃ w6, w6 = w5.alloc (.cells #[.int .i64 a.k, .int .i64 a.m, .string a.x, .int .i64 a.r, (.slice px n qx)] 32) := ⟨_, rfl⟩
  have k56 : Kb 0 w5 w6 := by rw [hw6]; exact kb_alloc _ _ _
  have b6 : w6.heap[w5.heap.size]? = some (.cells #[.int .i64 a.k, .int .i64 a.m, .string a.x, .int .i64 a.r, (.slice px n qx)] 32 (0, 0)) := by rw [hw6]; exact alloc_new _ _ _
  have z6 : w6.heap.size = w5.heap.size + 1 := by rw [hw6]; exact World.size_alloc _ _
  obtain ⟨P5, hP5⟩ : ∃ P5, P5 = w5.heap.size := ⟨_, rfl⟩
  obtain ⟨gx, VX, GX, ox⟩ := rx5.2
  rw [← hP5] at b6 z6 ox
  have rx6 : RowT 0 w6 (.slice px n qx) n F := (rx5.1.mono (Nat.zero_le _)).keep k56
  have HK6 : Hid (Kb 0 w4 w6 ∧ w6.heap[P5]? = some (.cells #[.int .i64 a.k, .int .i64 a.m, .string a.x, .int .i64 a.r, (.slice px n qx)] 32 (0, 0)) ∧ w6.heap.size = P5 + 1 ∧ w4.heap.size ≤ P5 ∧ RowT 0 w6 (.slice px n qx) n F ∧ OwG w4.heap.size P5 w6 (.slice px n qx) n (fun i => (F i).c) gx VX GX) := (⟨k5.trans k56, b6, z6, by have := k5.size; omega, rx6, ox.block (fun q _ hq => k56.block q (Nat.zero_le _) (by omega))⟩ : _ ∧ _)
  have x0 : w6.cell? ⟨P5, 0, none⟩ = some (.int .i64 a.k) := cell_of b6 rfl
  have x1 : w6.cell? ⟨P5, 1, none⟩ = some (.int .i64 a.m) := cell_of b6 rfl
  have x2 : w6.cell? ⟨P5, 2, none⟩ = some (.string a.x) := cell_of b6 rfl
  have x3 : w6.cell? ⟨P5, 3, none⟩ = some (.int .i64 a.r) := cell_of b6 rfl
  have x4 : w6.cell? ⟨P5, 4, none⟩ = some ((.slice px n qx)) := cell_of b6 rfl
  have HI6 := (show ∀ W v, RowT 0 W v n F → Bg n F a → Calls Try.prog 19 #[.agg #[.int .i64 a.k, .int .i64 a.m, .string a.x, .int .i64 a.r, v]] W fun e w' => ∃ v', e = .returned (.agg #[.int .i64 A.k, .int .i64 A.m, .string A.x, .int .i64 A.r, v']) ∧ RowTX W.heap.size w' v' m Fc ∧ Kb 0 W w' from HIM) w6 _ rx6 (show Bg n F a ∧ _ from HBD).1
  have HW6 : Hid (w6 = w5.alloc (.cells #[.int .i64 a.k, .int .i64 a.m, .string a.x, .int .i64 a.r, (.slice px n qx)] 32) ∧ P5 = w5.heap.size) := (⟨hw6, hP5⟩ : _ ∧ _)
  clear rx5 k5 k56 b6 z6 rx6 ox hw6 hP5
  go_upto_region 7 with fail
  rw [← (show _ ∧ _ from HW6).1, ← (show _ ∧ _ from HW6).2]
  clear HW6
  go_wp2_with fail
  refine HI6.mono ?_
  rintro e w7 ⟨vg, rfl, rg7, k7⟩
  clear HI6 x0 x1 x2 x3 x4
  obtain ⟨pg, qg, rfl, -⟩ := id rg7.1
  obtain ⟨w8, hw8⟩ : ∃ w8, w8 = w7.alloc (.cells #[.int .i64 A.k, .int .i64 A.m, .string A.x, .int .i64 A.r, (.slice pg m qg)] 32) := ⟨_, rfl⟩
  have k78 : Kb 0 w7 w8 := by rw [hw8]; exact kb_alloc _ _ _
  have b8 : w8.heap[w7.heap.size]? = some (.cells #[.int .i64 A.k, .int .i64 A.m, .string A.x, .int .i64 A.r, (.slice pg m qg)] 32 (0, 0)) := by rw [hw8]; exact alloc_new _ _ _
  have z8 : w8.heap.size = w7.heap.size + 1 := by rw [hw8]; exact World.size_alloc _ _
  obtain ⟨P6, hP6⟩ : ∃ P6, P6 = w7.heap.size := ⟨_, rfl⟩
  obtain ⟨gg, VG, GG, og⟩ := rg7.2
  rw [← hP6] at b8 z8 og
  obtain ⟨k14, b4, z4, r4⟩ := (show Kb 0 w1 w4 ∧ w4.heap[P4]? = some (.cells #[.int .i64 A.k, .int .i64 A.m, .string A.x, .int .i64 A.r, (.slice pw m qw)] 32 (0, 0)) ∧ w4.heap.size = P4 + 1 ∧ RowT 0 w4 (.slice pw m qw) m Fc from HK4)
  obtain ⟨k46, b5, z6, h46, rx6, ox6⟩ := (show Kb 0 w4 w6 ∧ w6.heap[P5]? = some (.cells #[.int .i64 a.k, .int .i64 a.m, .string a.x, .int .i64 a.r, (.slice px n qx)] 32 (0, 0)) ∧ w6.heap.size = P5 + 1 ∧ w4.heap.size ≤ P5 ∧ RowT 0 w6 (.slice px n qx) n F ∧ OwG w4.heap.size P5 w6 (.slice px n qx) n (fun i => (F i).c) gx VX GX from HK6)
  have k68 := k7.trans k78
  have k48 := k46.trans k68
  have h68 : w6.heap.size ≤ P6 := by have := k7.size; omega
  have b48 := (k48.block _ (Nat.zero_le _) (by omega)).trans b4
  have b58 := (k68.block _ (Nat.zero_le _) (by omega)).trans b5
  have y0 : w8.cell? ⟨P4, 0, none⟩ = some (.int .i64 A.k) := cell_of b48 rfl
  have y1 : w8.cell? ⟨P4, 1, none⟩ = some (.int .i64 A.m) := cell_of b48 rfl
  have y2 : w8.cell? ⟨P4, 2, none⟩ = some (.string A.x) := cell_of b48 rfl
  have y3 : w8.cell? ⟨P4, 3, none⟩ = some (.int .i64 A.r) := cell_of b48 rfl
  have y4 : w8.cell? ⟨P4, 4, none⟩ = some ((.slice pw m qw)) := cell_of b48 rfl
  have g0 : w8.cell? ⟨P6, 0, none⟩ = some (.int .i64 A.k) := cell_of b8 rfl
  have g1 : w8.cell? ⟨P6, 1, none⟩ = some (.int .i64 A.m) := cell_of b8 rfl
  have g2 : w8.cell? ⟨P6, 2, none⟩ = some (.string A.x) := cell_of b8 rfl
  have g3 : w8.cell? ⟨P6, 3, none⟩ = some (.int .i64 A.r) := cell_of b8 rfl
  have g4 : w8.cell? ⟨P6, 4, none⟩ = some ((.slice pg m qg)) := cell_of b8 rfl
  have rg8 : RowT 0 w8 (.slice pg m qg) m Fc := (rg7.1.mono (Nat.zero_le _)).keep k78
  have HE8 := (show ∀ W v v', RowT 0 W v m Fc → RowT 0 W v' m Fc → Calls Try.prog 13 #[.agg #[.int .i64 A.k, .int .i64 A.m, .string A.x, .int .i64 A.r, v], .agg #[.int .i64 A.k, .int .i64 A.m, .string A.x, .int .i64 A.r, v']] W fun e w' => e = .returned (.bool true) ∧ Kb 0 W w' from HEQ) w8 _ _ rg8 (r4.keep k48)
  have HK8 : Hid (Kb 0 w4 w8 ∧ w8.heap[P5]? = some (.cells #[.int .i64 a.k, .int .i64 a.m, .string a.x, .int .i64 a.r, (.slice px n qx)] 32 (0, 0)) ∧ w8.heap[P6]? = some (.cells #[.int .i64 A.k, .int .i64 A.m, .string A.x, .int .i64 A.r, (.slice pg m qg)] 32 (0, 0)) ∧ w8.heap.size = P6 + 1 ∧ P5 + 1 ≤ P6 ∧ w4.heap.size = P4 + 1 ∧ w4.heap.size ≤ P5 ∧ Kb 0 w1 w4 ∧ w4.heap[P4]? = some (.cells #[.int .i64 A.k, .int .i64 A.m, .string A.x, .int .i64 A.r, (.slice pw m qw)] 32 (0, 0)) ∧ RowT 0 w4 (.slice pw m qw) m Fc ∧ RowT 0 w8 (.slice px n qx) n F ∧ OwG w4.heap.size P5 w8 (.slice px n qx) n (fun i => (F i).c) gx VX GX ∧ RowT (P5 + 1) w8 (.slice pg m qg) m Fc ∧ OwG (P5 + 1) P6 w8 (.slice pg m qg) m (fun i => (Fc i).c) gg VG GG) := (⟨k48, b58, b8, z8, by omega, z4, h46, k14, b4, r4, rx6.keep k68, ox6.block (fun q _ hq => k68.block q (Nat.zero_le _) (by omega)), by rw [← z6]; exact rg7.1.keep (k78.mono (Nat.zero_le _)), by rw [← z6]; exact og.block (fun q _ hq => k78.block q (Nat.zero_le _) (by omega))⟩ : _ ∧ _)
  have HW8 : Hid (w8 = w7.alloc (.cells #[.int .i64 A.k, .int .i64 A.m, .string A.x, .int .i64 A.r, (.slice pg m qg)] 32) ∧ P6 = w7.heap.size) := (⟨hw8, hP6⟩ : _ ∧ _)
  clear k14 b4 z4 r4 k46 b5 z6 h46 rx6 ox6 k68 k48 h68 b48 b58 b8 z8 rg7 rg8 og k7 k78 hw8 hP6 HK4 HK6
  go_upto_region 8 with fail
  rw [← (show _ ∧ _ from HW8).1, ← (show _ ∧ _ from HW8).2]
  clear HW8
  go_wp2_with fail
  refine HE8.mono ?_
  rintro e w9 ⟨rfl, k9⟩
  clear HE8 y0 y1 y2 y3 y4 g0 g1 g2 g3 g4
  obtain ⟨k48, b58, b68, z8, h56, z4, h45, k14, b4, r4, rx8, ox8, rg8, og8⟩ := (show Kb 0 w4 w8 ∧ w8.heap[P5]? = some (.cells #[.int .i64 a.k, .int .i64 a.m, .string a.x, .int .i64 a.r, (.slice px n qx)] 32 (0, 0)) ∧ w8.heap[P6]? = some (.cells #[.int .i64 A.k, .int .i64 A.m, .string A.x, .int .i64 A.r, (.slice pg m qg)] 32 (0, 0)) ∧ w8.heap.size = P6 + 1 ∧ P5 + 1 ≤ P6 ∧ w4.heap.size = P4 + 1 ∧ w4.heap.size ≤ P5 ∧ Kb 0 w1 w4 ∧ w4.heap[P4]? = some (.cells #[.int .i64 A.k, .int .i64 A.m, .string A.x, .int .i64 A.r, (.slice pw m qw)] 32 (0, 0)) ∧ RowT 0 w4 (.slice pw m qw) m Fc ∧ RowT 0 w8 (.slice px n qx) n F ∧ OwG w4.heap.size P5 w8 (.slice px n qx) n (fun i => (F i).c) gx VX GX ∧ RowT (P5 + 1) w8 (.slice pg m qg) m Fc ∧ OwG (P5 + 1) P6 w8 (.slice pg m qg) m (fun i => (Fc i).c) gg VG GG from HK8)
  obtain ⟨hbd, hbm, hsx, hsc, kw1, bx1, zw1⟩ := (show Bg n F a ∧ Bg m Fc A ∧ sm (fun i => 1 + 4 * (F i).c) n ≤ 5000000 ∧ sm (fun i => 1 + 4 * (Fc i).c) m ≤ 1000000 ∧ Kb 0 w w1 ∧ w1.heap[w.heap.size]? = some (.cells #[.int .i64 a.k, .int .i64 a.m, .string a.x, .int .i64 a.r, (.slice pa n ca)] 26 (0, 0)) ∧ w.heap.size < w1.heap.size from HBD)
  have HCX : Hid (∀ W, Kb 0 w8 W → (W.cell? ⟨P5, 0, none⟩ = some (.int .i64 a.k) ∧ W.cell? ⟨P5, 1, none⟩ = some (.int .i64 a.m) ∧ W.cell? ⟨P5, 2, none⟩ = some (.string a.x) ∧ W.cell? ⟨P5, 3, none⟩ = some (.int .i64 a.r) ∧ W.cell? ⟨P5, 4, none⟩ = some ((.slice px n qx))) ∧ W.cell? ⟨w.heap.size, 0, none⟩ = some (.int .i64 a.k) ∧ W.cell? ⟨w.heap.size, 1, none⟩ = some (.int .i64 a.m) ∧ W.cell? ⟨w.heap.size, 2, none⟩ = some (.string a.x) ∧ W.cell? ⟨w.heap.size, 3, none⟩ = some (.int .i64 a.r) ∧ W.cell? ⟨w.heap.size, 4, none⟩ = some ((.slice pa n ca))) := (fun W k => ⟨⟨k.cell (cell_of b58 rfl), k.cell (cell_of b58 rfl), k.cell (cell_of b58 rfl), k.cell (cell_of b58 rfl), k.cell (cell_of b58 rfl)⟩, (show ∀ W, Kb 0 w1 W → _ from HBK) W ((k14.trans k48).trans k)⟩ : ∀ W, _)
  have HTW : Hid (∀ W, Kb 0 w8 W → Calls Try.prog 11 #[.agg #[.int .i64 a.k, .int .i64 a.m, .string a.x, .int .i64 a.r, .slice pa n ca]] W fun e w' => ∃ v', e = .returned (.agg #[.int .i64 a.k, .int .i64 a.m, .string a.x, .int .i64 a.r, v']) ∧ RowTX W.heap.size w' v' n F ∧ Kb 0 W w') := (fun W k => (show ∀ W, Kb 0 w1 W → Calls Try.prog 11 #[.agg #[.int .i64 a.k, .int .i64 a.m, .string a.x, .int .i64 a.r, .slice pa n ca]] W fun e w' => ∃ v', e = .returned (.agg #[.int .i64 a.k, .int .i64 a.m, .string a.x, .int .i64 a.r, v']) ∧ RowTX W.heap.size w' v' n F ∧ Kb 0 W w' from HTO) W ((k14.trans k48).trans k) : ∀ W, _)
  have HEW : Hid (∀ W v2, Kb 0 w8 W → RowT 0 W v2 n F → Calls Try.prog 13 #[.agg #[.int .i64 a.k, .int .i64 a.m, .string a.x, .int .i64 a.r, .slice px n qx], .agg #[.int .i64 a.k, .int .i64 a.m, .string a.x, .int .i64 a.r, v2]] W fun e w' => e = .returned (.bool true) ∧ Kb 0 W w') := (fun W v2 k h2 => (show ∀ W v v', RowT 0 W v n F → RowT 0 W v' n F → Calls Try.prog 13 #[.agg #[.int .i64 a.k, .int .i64 a.m, .string a.x, .int .i64 a.r, v], .agg #[.int .i64 a.k, .int .i64 a.m, .string a.x, .int .i64 a.r, v']] W fun e w' => e = .returned (.bool true) ∧ Kb 0 W w' from HEX) W _ _ (rx8.keep k) h2 : ∀ W v2, _)
  have s9 := (show ∀ W, Kb 0 w8 W → _ from HCX) w9 k9
  obtain ⟨⟨x0, x1, x2, x3, x4⟩, c0, c1, c2, c3, c4⟩ := (show ∀ W, Kb 0 w8 W → _ from HCX) w9 k9
  have HS9 : Hid ((w9.cell? ⟨P5, 0, none⟩ = some (.int .i64 a.k) ∧ w9.cell? ⟨P5, 1, none⟩ = some (.int .i64 a.m) ∧ w9.cell? ⟨P5, 2, none⟩ = some (.string a.x) ∧ w9.cell? ⟨P5, 3, none⟩ = some (.int .i64 a.r) ∧ w9.cell? ⟨P5, 4, none⟩ = some ((.slice px n qx))) ∧ w9.cell? ⟨w.heap.size, 0, none⟩ = some (.int .i64 a.k) ∧ w9.cell? ⟨w.heap.size, 1, none⟩ = some (.int .i64 a.m) ∧ w9.cell? ⟨w.heap.size, 2, none⟩ = some (.string a.x) ∧ w9.cell? ⟨w.heap.size, 3, none⟩ = some (.int .i64 a.r) ∧ w9.cell? ⟨w.heap.size, 4, none⟩ = some ((.slice pa n ca))) := s9
  have HK9 : Hid (Kb 0 w8 w9) := k9
  clear k48 b58 b68 z8 h56 z4 h45 k14 b4 r4 rx8 ox8 rg8 og8 hbd hbm hsx hsc kw1 bx1 zw1 s9 k9
  go_wp2_with fail
  go_region_held3 (fun W' => (W'.cell? ⟨P5, 0, none⟩ = some (.int .i64 a.k) ∧ W'.cell? ⟨P5, 1, none⟩ = some (.int .i64 a.m) ∧ W'.cell? ⟨P5, 2, none⟩ = some (.string a.x) ∧ W'.cell? ⟨P5, 3, none⟩ = some (.int .i64 a.r) ∧ W'.cell? ⟨P5, 4, none⟩ = some ((.slice px n qx))) ∧ W'.cell? ⟨w.heap.size, 0, none⟩ = some (.int .i64 a.k) ∧ W'.cell? ⟨w.heap.size, 1, none⟩ = some (.int .i64 a.m) ∧ W'.cell? ⟨w.heap.size, 2, none⟩ = some (.string a.x) ∧ W'.cell? ⟨w.heap.size, 3, none⟩ = some (.int .i64 a.r) ∧ W'.cell? ⟨w.heap.size, 4, none⟩ = some ((.slice pa n ca))) (first | exact s11 | exact s10 | exact (show (w9.cell? ⟨P5, 0, none⟩ = some (.int .i64 a.k) ∧ w9.cell? ⟨P5, 1, none⟩ = some (.int .i64 a.m) ∧ w9.cell? ⟨P5, 2, none⟩ = some (.string a.x) ∧ w9.cell? ⟨P5, 3, none⟩ = some (.int .i64 a.r) ∧ w9.cell? ⟨P5, 4, none⟩ = some ((.slice px n qx))) ∧ w9.cell? ⟨w.heap.size, 0, none⟩ = some (.int .i64 a.k) ∧ w9.cell? ⟨w.heap.size, 1, none⟩ = some (.int .i64 a.m) ∧ w9.cell? ⟨w.heap.size, 2, none⟩ = some (.string a.x) ∧ w9.cell? ⟨w.heap.size, 3, none⟩ = some (.int .i64 a.r) ∧ w9.cell? ⟨w.heap.size, 4, none⟩ = some ((.slice pa n ca)) from HS9))
    ((first
      | (go_at_call 11; refine ((show ∀ W, Kb 0 w8 W → _ from HTW) _ (by exact Kb.drewN (show Kb 0 w8 w9 from HK9) 1)).mono ?_; rintro e w10 ⟨v2, rfl, o2, k10⟩; have K10 : Kb 0 w8 w10 := (show Kb 0 w8 w9 from HK9).trans ⟨k10.os, k10.output, k10.size, k10.block⟩; have s10 := (show ∀ W, Kb 0 w8 W → _ from HCX) w10 K10)
      | (go_at_call 13; refine ((show ∀ W v2, _ from HEW) _ _ K10 (o2.1.mono (Nat.zero_le _))).mono ?_; rintro e w11 ⟨rfl, k11⟩; have K11 : Kb 0 w8 w11 := K10.trans k11; have s11 := (show ∀ W, Kb 0 w8 W → _ from HCX) w11 K11)))
  clear x0 x1 x2 x3 x4 c0 c1 c2 c3 c4 HCX HTW HEW o2 k10 K10 s10 k11 s11 HS9 HK9 HEX
  obtain ⟨k48, b58, b68, z8, h56, z4, h45, k14, b4, r4, rx8, ox8, rg8, og8⟩ := (show Kb 0 w4 w8 ∧ w8.heap[P5]? = some (.cells #[.int .i64 a.k, .int .i64 a.m, .string a.x, .int .i64 a.r, (.slice px n qx)] 32 (0, 0)) ∧ w8.heap[P6]? = some (.cells #[.int .i64 A.k, .int .i64 A.m, .string A.x, .int .i64 A.r, (.slice pg m qg)] 32 (0, 0)) ∧ w8.heap.size = P6 + 1 ∧ P5 + 1 ≤ P6 ∧ w4.heap.size = P4 + 1 ∧ w4.heap.size ≤ P5 ∧ Kb 0 w1 w4 ∧ w4.heap[P4]? = some (.cells #[.int .i64 A.k, .int .i64 A.m, .string A.x, .int .i64 A.r, (.slice pw m qw)] 32 (0, 0)) ∧ RowT 0 w4 (.slice pw m qw) m Fc ∧ RowT 0 w8 (.slice px n qx) n F ∧ OwG w4.heap.size P5 w8 (.slice px n qx) n (fun i => (F i).c) gx VX GX ∧ RowT (P5 + 1) w8 (.slice pg m qg) m Fc ∧ OwG (P5 + 1) P6 w8 (.slice pg m qg) m (fun i => (Fc i).c) gg VG GG from HK8)
  obtain ⟨hbd, hbm, hsx, hsc, kw1, bx1, zw1⟩ := (show Bg n F a ∧ Bg m Fc A ∧ sm (fun i => 1 + 4 * (F i).c) n ≤ 5000000 ∧ sm (fun i => 1 + 4 * (Fc i).c) m ≤ 1000000 ∧ Kb 0 w w1 ∧ w1.heap[w.heap.size]? = some (.cells #[.int .i64 a.k, .int .i64 a.m, .string a.x, .int .i64 a.r, (.slice pa n ca)] 26 (0, 0)) ∧ w.heap.size < w1.heap.size from HBD)
  have z11 := K11.size
  have b5b : w11.heap[P5]? = some (.cells #[.int .i64 a.k, .int .i64 a.m, .string a.x, .int .i64 a.r, (.slice px n qx)] 32 (0, 0)) := (K11.block _ (Nat.zero_le _) (by omega)).trans b58
  have x0 : w11.cell? ⟨P5, 0, none⟩ = some (.int .i64 a.k) := cell_of b5b rfl
  have x1 : w11.cell? ⟨P5, 1, none⟩ = some (.int .i64 a.m) := cell_of b5b rfl
  have x2 : w11.cell? ⟨P5, 2, none⟩ = some (.string a.x) := cell_of b5b rfl
  have x3 : w11.cell? ⟨P5, 3, none⟩ = some (.int .i64 a.r) := cell_of b5b rfl
  have x4 : w11.cell? ⟨P5, 4, none⟩ = some ((.slice px n qx)) := cell_of b5b rfl
  have ox11 := ox8.block (W' := w11) (fun q _ hq => K11.block q (Nat.zero_le _) (by omega))
  have HM := mark_graph (a := a) w11 1 ox11 (by omega) hbd.hn (fun i hi => hbd.hc i hi) (by omega) (by omega)
  unfold grv at HM
  obtain ⟨KX, hKX⟩ : ∃ KX : Int, KX = 1 + (sm (fun i => 1 + 4 * (F i).c) n : Int) := ⟨_, rfl⟩
  rw [← hKX] at HM
  have hKX0 : ¬ KX < 0 := by omega
  have HK11 : Hid (Kb 0 w8 w11) := K11
  clear k48 b58 b68 z8 h56 z4 h45 k14 b4 r4 rx8 ox8 rg8 og8 hbd hbm hsx hsc kw1 bx1 zw1 z11 b5b ox11 K11 hKX
  go_wp2_with fail
  refine HM.mono ?_
  rintro e w12 ⟨rfl, kq12, md12⟩
  clear HM md12 x0 x1 x2 x3 x4
  obtain ⟨k48, b58, b68, z8, h56, z4, h45, k14, b4, r4, rx8, ox8, rg8, og8⟩ := (show Kb 0 w4 w8 ∧ w8.heap[P5]? = some (.cells #[.int .i64 a.k, .int .i64 a.m, .string a.x, .int .i64 a.r, (.slice px n qx)] 32 (0, 0)) ∧ w8.heap[P6]? = some (.cells #[.int .i64 A.k, .int .i64 A.m, .string A.x, .int .i64 A.r, (.slice pg m qg)] 32 (0, 0)) ∧ w8.heap.size = P6 + 1 ∧ P5 + 1 ≤ P6 ∧ w4.heap.size = P4 + 1 ∧ w4.heap.size ≤ P5 ∧ Kb 0 w1 w4 ∧ w4.heap[P4]? = some (.cells #[.int .i64 A.k, .int .i64 A.m, .string A.x, .int .i64 A.r, (.slice pw m qw)] 32 (0, 0)) ∧ RowT 0 w4 (.slice pw m qw) m Fc ∧ RowT 0 w8 (.slice px n qx) n F ∧ OwG w4.heap.size P5 w8 (.slice px n qx) n (fun i => (F i).c) gx VX GX ∧ RowT (P5 + 1) w8 (.slice pg m qg) m Fc ∧ OwG (P5 + 1) P6 w8 (.slice pg m qg) m (fun i => (Fc i).c) gg VG GG from HK8)
  obtain ⟨hbd, hbm, hsx, hsc, kw1, bx1, zw1⟩ := (show Bg n F a ∧ Bg m Fc A ∧ sm (fun i => 1 + 4 * (F i).c) n ≤ 5000000 ∧ sm (fun i => 1 + 4 * (Fc i).c) m ≤ 1000000 ∧ Kb 0 w w1 ∧ w1.heap[w.heap.size]? = some (.cells #[.int .i64 a.k, .int .i64 a.m, .string a.x, .int .i64 a.r, (.slice pa n ca)] 26 (0, 0)) ∧ w.heap.size < w1.heap.size from HBD)
  have K11 := (show Kb 0 w8 w11 from HK11)
  have z11 := K11.size
  have z12 := kq12.size
  have k4c : Kb 0 w4 w12 := ⟨kq12.os.trans (k48.trans K11).os, kq12.output.trans (k48.trans K11).output, Nat.le_trans (k48.trans K11).size z12, fun q _ hq => (kq12.block q (by omega) (by omega)).trans ((k48.trans K11).block q (Nat.zero_le _) hq)⟩
  have k5c : Kb (P5 + 1) w8 w12 := ⟨kq12.os.trans K11.os, kq12.output.trans K11.output, by omega, fun q hq1 hq => (kq12.block q (by omega) (by omega)).trans (K11.block q (Nat.zero_le _) hq)⟩
  have b4c : w12.heap[P4]? = some (.cells #[.int .i64 A.k, .int .i64 A.m, .string A.x, .int .i64 A.r, (.slice pw m qw)] 32 (0, 0)) := (k4c.block _ (Nat.zero_le _) (by omega)).trans b4
  have b6c : w12.heap[P6]? = some (.cells #[.int .i64 A.k, .int .i64 A.m, .string A.x, .int .i64 A.r, (.slice pg m qg)] 32 (0, 0)) := (k5c.block _ (by omega) (by omega)).trans b68
  have y0 : w12.cell? ⟨P4, 0, none⟩ = some (.int .i64 A.k) := cell_of b4c rfl
  have y1 : w12.cell? ⟨P4, 1, none⟩ = some (.int .i64 A.m) := cell_of b4c rfl
  have y2 : w12.cell? ⟨P4, 2, none⟩ = some (.string A.x) := cell_of b4c rfl
  have y3 : w12.cell? ⟨P4, 3, none⟩ = some (.int .i64 A.r) := cell_of b4c rfl
  have y4 : w12.cell? ⟨P4, 4, none⟩ = some ((.slice pw m qw)) := cell_of b4c rfl
  have g0 : w12.cell? ⟨P6, 0, none⟩ = some (.int .i64 A.k) := cell_of b6c rfl
  have g1 : w12.cell? ⟨P6, 1, none⟩ = some (.int .i64 A.m) := cell_of b6c rfl
  have g2 : w12.cell? ⟨P6, 2, none⟩ = some (.string A.x) := cell_of b6c rfl
  have g3 : w12.cell? ⟨P6, 3, none⟩ = some (.int .i64 A.r) := cell_of b6c rfl
  have g4 : w12.cell? ⟨P6, 4, none⟩ = some ((.slice pg m qg)) := cell_of b6c rfl
  have HE12 := (show ∀ W v v', RowT 0 W v m Fc → RowT 0 W v' m Fc → Calls Try.prog 13 #[.agg #[.int .i64 A.k, .int .i64 A.m, .string A.x, .int .i64 A.r, v], .agg #[.int .i64 A.k, .int .i64 A.m, .string A.x, .int .i64 A.r, v']] W fun e w' => e = .returned (.bool true) ∧ Kb 0 W w' from HEQ) w12 _ _ ((rg8.keep k5c).mono (Nat.zero_le _)) (r4.keep k4c)
  have HK12 : Hid (Kb 0 w4 w12 ∧ w12.heap[P6]? = some (.cells #[.int .i64 A.k, .int .i64 A.m, .string A.x, .int .i64 A.r, (.slice pg m qg)] 32 (0, 0)) ∧ OwG (P5 + 1) P6 w12 (.slice pg m qg) m (fun i => (Fc i).c) gg VG GG ∧ P6 < w12.heap.size) := (⟨k4c, b6c, og8.block (fun q h1 h2 => k5c.block q h1 (by omega)), by omega⟩ : _ ∧ _)
  clear k48 b58 b68 z8 h56 z4 h45 k14 b4 r4 rx8 ox8 rg8 og8 hbd hbm hsx hsc kw1 bx1 zw1 K11 z11 z12 k4c k5c b4c b6c kq12 HK11
  go_wp2_with fail
  refine HE12.mono ?_
  rintro e w13 ⟨rfl, k13⟩
  clear HE12 y0 y1 y2 y3 y4 g0 g1 g2 g3 g4
  obtain ⟨k4c, b6c, ogc, zc⟩ := (show Kb 0 w4 w12 ∧ w12.heap[P6]? = some (.cells #[.int .i64 A.k, .int .i64 A.m, .string A.x, .int .i64 A.r, (.slice pg m qg)] 32 (0, 0)) ∧ OwG (P5 + 1) P6 w12 (.slice pg m qg) m (fun i => (Fc i).c) gg VG GG ∧ P6 < w12.heap.size from HK12)
  obtain ⟨hbd, hbm, hsx, hsc, kw1, bx1, zw1⟩ := (show Bg n F a ∧ Bg m Fc A ∧ sm (fun i => 1 + 4 * (F i).c) n ≤ 5000000 ∧ sm (fun i => 1 + 4 * (Fc i).c) m ≤ 1000000 ∧ Kb 0 w w1 ∧ w1.heap[w.heap.size]? = some (.cells #[.int .i64 a.k, .int .i64 a.m, .string a.x, .int .i64 a.r, (.slice pa n ca)] 26 (0, 0)) ∧ w.heap.size < w1.heap.size from HBD)
  have z13 := k13.size
  have b6d : w13.heap[P6]? = some (.cells #[.int .i64 A.k, .int .i64 A.m, .string A.x, .int .i64 A.r, (.slice pg m qg)] 32 (0, 0)) := (k13.block _ (Nat.zero_le _) (by omega)).trans b6c
  have g0 : w13.cell? ⟨P6, 0, none⟩ = some (.int .i64 A.k) := cell_of b6d rfl
  have g1 : w13.cell? ⟨P6, 1, none⟩ = some (.int .i64 A.m) := cell_of b6d rfl
  have g2 : w13.cell? ⟨P6, 2, none⟩ = some (.string A.x) := cell_of b6d rfl
  have g3 : w13.cell? ⟨P6, 3, none⟩ = some (.int .i64 A.r) := cell_of b6d rfl
  have g4 : w13.cell? ⟨P6, 4, none⟩ = some ((.slice pg m qg)) := cell_of b6d rfl
  have HM := mark_graph (a := A) w13 1 (ogc.block (fun q _ hq => k13.block q (Nat.zero_le _) (by omega))) (by omega) hbm.hn (fun i hi => hbm.hc i hi) (by omega) (by omega)
  unfold grv at HM
  obtain ⟨KG, hKG⟩ : ∃ KG : Int, KG = 1 + (sm (fun i => 1 + 4 * (Fc i).c) m : Int) := ⟨_, rfl⟩
  rw [← hKG] at HM
  have hKG0 : ¬ KG < 0 := by omega
  have HKG : Hid (KG = 1 + (sm (fun i => 1 + 4 * (Fc i).c) m : Int)) := hKG
  have HK13 : Hid (Kb 0 w4 w13 ∧ w13.heap[P6]? = some (.cells #[.int .i64 A.k, .int .i64 A.m, .string A.x, .int .i64 A.r, (.slice pg m qg)] 32 (0, 0)) ∧ P6 < w13.heap.size) := (⟨k4c.trans k13, b6d, by omega⟩ : _ ∧ _)
  clear hbd hbm hsx hsc kw1 bx1 zw1 k4c b6c ogc zc z13 b6d k13 hKG HK12
  go_wp2_with fail
  refine HM.mono ?_
  rintro e w14 ⟨rfl, kq14, md14⟩
  clear HM g0 g1 g2 g3 g4
  obtain ⟨k4d, b6d, zd⟩ := (show Kb 0 w4 w13 ∧ w13.heap[P6]? = some (.cells #[.int .i64 A.k, .int .i64 A.m, .string A.x, .int .i64 A.r, (.slice pg m qg)] 32 (0, 0)) ∧ P6 < w13.heap.size from HK13)
  obtain ⟨k48, b58, b68, z8, h56, z4, h45, k14, b4, r4, rx8, ox8, rg8, og8⟩ := (show Kb 0 w4 w8 ∧ w8.heap[P5]? = some (.cells #[.int .i64 a.k, .int .i64 a.m, .string a.x, .int .i64 a.r, (.slice px n qx)] 32 (0, 0)) ∧ w8.heap[P6]? = some (.cells #[.int .i64 A.k, .int .i64 A.m, .string A.x, .int .i64 A.r, (.slice pg m qg)] 32 (0, 0)) ∧ w8.heap.size = P6 + 1 ∧ P5 + 1 ≤ P6 ∧ w4.heap.size = P4 + 1 ∧ w4.heap.size ≤ P5 ∧ Kb 0 w1 w4 ∧ w4.heap[P4]? = some (.cells #[.int .i64 A.k, .int .i64 A.m, .string A.x, .int .i64 A.r, (.slice pw m qw)] 32 (0, 0)) ∧ RowT 0 w4 (.slice pw m qw) m Fc ∧ RowT 0 w8 (.slice px n qx) n F ∧ OwG w4.heap.size P5 w8 (.slice px n qx) n (fun i => (F i).c) gx VX GX ∧ RowT (P5 + 1) w8 (.slice pg m qg) m Fc ∧ OwG (P5 + 1) P6 w8 (.slice pg m qg) m (fun i => (Fc i).c) gg VG GG from HK8)
  obtain ⟨hbd, hbm, hsx, hsc, kw1, bx1, zw1⟩ := (show Bg n F a ∧ Bg m Fc A ∧ sm (fun i => 1 + 4 * (F i).c) n ≤ 5000000 ∧ sm (fun i => 1 + 4 * (Fc i).c) m ≤ 1000000 ∧ Kb 0 w w1 ∧ w1.heap[w.heap.size]? = some (.cells #[.int .i64 a.k, .int .i64 a.m, .string a.x, .int .i64 a.r, (.slice pa n ca)] 26 (0, 0)) ∧ w.heap.size < w1.heap.size from HBD)
  have z14 := kq14.size
  have k4e : Kb 0 w4 w14 := ⟨kq14.os.trans k4d.os, kq14.output.trans k4d.output, Nat.le_trans k4d.size z14, fun q _ hq => (kq14.block q (by omega) (by omega)).trans (k4d.block q (Nat.zero_le _) hq)⟩
  have b6e : w14.heap[P6]? = some (.cells #[.int .i64 A.k, .int .i64 A.m, .string A.x, .int .i64 A.r, (.slice pg m qg)] 32 (0, 0)) := (kq14.block _ (by omega) (by omega)).trans b6d
  have g0 : w14.cell? ⟨P6, 0, none⟩ = some (.int .i64 A.k) := cell_of b6e rfl
  have g1 : w14.cell? ⟨P6, 1, none⟩ = some (.int .i64 A.m) := cell_of b6e rfl
  have g2 : w14.cell? ⟨P6, 2, none⟩ = some (.string A.x) := cell_of b6e rfl
  have g3 : w14.cell? ⟨P6, 3, none⟩ = some (.int .i64 A.r) := cell_of b6e rfl
  have g4 : w14.cell? ⟨P6, 4, none⟩ = some ((.slice pg m qg)) := cell_of b6e rfl
  have HQ := held_graph (a := A) w14 1 md14 (by omega) hbm.hn (fun i hi => hbm.hc i hi) (by omega) (by omega)
  unfold grv at HQ
  rw [← (show KG = _ from HKG)] at HQ
  have HK14 : Hid (Kb 0 w1 w14 ∧ Kb 0 w4 w14 ∧ w14.heap[P6]? = some (.cells #[.int .i64 A.k, .int .i64 A.m, .string A.x, .int .i64 A.r, (.slice pg m qg)] 32 (0, 0)) ∧ MdG (P5 + 1) P6 w14 (.slice pg m qg) m (fun i => (Fc i).c) gg VG GG 1 ∧ P6 < w14.heap.size ∧ P4 < w14.heap.size ∧ w14.heap[P4]? = some (.cells #[.int .i64 A.k, .int .i64 A.m, .string A.x, .int .i64 A.r, (.slice pw m qw)] 32 (0, 0)) ∧ RowT 0 w14 (.slice pw m qw) m Fc) := (⟨k14.trans k4e, k4e, b6e, md14, by omega, by omega, (k4e.block _ (Nat.zero_le _) (by omega)).trans b4, r4.keep k4e⟩ : _ ∧ _)
  clear hbd hbm hsx hsc kw1 bx1 zw1 k48 b58 b68 z8 h56 z4 h45 k14 b4 r4 rx8 ox8 rg8 og8 k4d b6d zd z14 k4e b6e md14 kq14 HK13
  go_wp2_with fail
  refine HQ.mono ?_
  rintro e w15 ⟨rfl, k15⟩
  clear HQ g0 g1 g2 g3 g4
  have HK15 : Hid (Kb 0 w14 w15) := k15
  have k115 := (show Kb 0 w1 w14 ∧ _ from HK14).1.trans k15
  obtain ⟨c0, c1, c2, c3, c4⟩ := (show ∀ W, Kb 0 w1 W → _ from HBK) w15 k115
  have HT3 := (show ∀ W, Kb 0 w1 W → Calls Try.prog 11 #[.agg #[.int .i64 a.k, .int .i64 a.m, .string a.x, .int .i64 a.r, .slice pa n ca]] W fun e w' => ∃ v', e = .returned (.agg #[.int .i64 a.k, .int .i64 a.m, .string a.x, .int .i64 a.r, v']) ∧ RowTX W.heap.size w' v' n F ∧ Kb 0 W w' from HTO) w15 k115
  clear k15 k115
  go_wp2_with fail
  refine HT3.mono ?_
  rintro e w16 ⟨v3, rfl, r16, k16⟩
  clear HT3 c0 c1 c2 c3 c4
  have HI16 := (show ∀ W v, RowT 0 W v n F → Bg n F a → Calls Try.prog 19 #[.agg #[.int .i64 a.k, .int .i64 a.m, .string a.x, .int .i64 a.r, v]] W fun e w' => ∃ v', e = .returned (.agg #[.int .i64 A.k, .int .i64 A.m, .string A.x, .int .i64 A.r, v']) ∧ RowTX W.heap.size w' v' m Fc ∧ Kb 0 W w' from HIM) w16 _ (r16.1.mono (Nat.zero_le _)) (show Bg n F a ∧ _ from HBD).1
  obtain ⟨p3, q3, rfl, -⟩ := id r16.1
  have HK16 : Hid (Kb 0 w14 w16) := (show Kb 0 w14 w15 from HK15).trans k16
  clear r16 k16 HK15
  go_wp2_with fail
  refine HI16.mono ?_
  rintro e w17 ⟨vh, rfl, rh17, k17⟩
  clear HI16 HIM HTO
  obtain ⟨ph, qh, rfl, -⟩ := id rh17.1
  obtain ⟨w18, hw18⟩ : ∃ w18, w18 = w17.alloc (.cells #[.int .i64 A.k, .int .i64 A.m, .string A.x, .int .i64 A.r, (.slice ph m qh)] 32) := ⟨_, rfl⟩
  have k1718 : Kb 0 w17 w18 := by rw [hw18]; exact kb_alloc _ _ _
  have b18 : w18.heap[w17.heap.size]? = some (.cells #[.int .i64 A.k, .int .i64 A.m, .string A.x, .int .i64 A.r, (.slice ph m qh)] 32 (0, 0)) := by rw [hw18]; exact alloc_new _ _ _
  obtain ⟨P7, hP7⟩ : ∃ P7, P7 = w17.heap.size := ⟨_, rfl⟩
  rw [← hP7] at b18
  have k1418 := ((show Kb 0 w14 w16 from HK16).trans k17).trans k1718
  obtain ⟨k114, k414, b6e, mde, ze6, ze4, b4e, r4e⟩ := (show Kb 0 w1 w14 ∧ Kb 0 w4 w14 ∧ w14.heap[P6]? = some (.cells #[.int .i64 A.k, .int .i64 A.m, .string A.x, .int .i64 A.r, (.slice pg m qg)] 32 (0, 0)) ∧ MdG (P5 + 1) P6 w14 (.slice pg m qg) m (fun i => (Fc i).c) gg VG GG 1 ∧ P6 < w14.heap.size ∧ P4 < w14.heap.size ∧ w14.heap[P4]? = some (.cells #[.int .i64 A.k, .int .i64 A.m, .string A.x, .int .i64 A.r, (.slice pw m qw)] 32 (0, 0)) ∧ RowT 0 w14 (.slice pw m qw) m Fc from HK14)
  have b4f := (k1418.block _ (Nat.zero_le _) ze4).trans b4e
  have h0 : w18.cell? ⟨P7, 0, none⟩ = some (.int .i64 A.k) := cell_of b18 rfl
  have h1 : w18.cell? ⟨P7, 1, none⟩ = some (.int .i64 A.m) := cell_of b18 rfl
  have h2 : w18.cell? ⟨P7, 2, none⟩ = some (.string A.x) := cell_of b18 rfl
  have h3 : w18.cell? ⟨P7, 3, none⟩ = some (.int .i64 A.r) := cell_of b18 rfl
  have h4 : w18.cell? ⟨P7, 4, none⟩ = some ((.slice ph m qh)) := cell_of b18 rfl
  have y0 : w18.cell? ⟨P4, 0, none⟩ = some (.int .i64 A.k) := cell_of b4f rfl
  have y1 : w18.cell? ⟨P4, 1, none⟩ = some (.int .i64 A.m) := cell_of b4f rfl
  have y2 : w18.cell? ⟨P4, 2, none⟩ = some (.string A.x) := cell_of b4f rfl
  have y3 : w18.cell? ⟨P4, 3, none⟩ = some (.int .i64 A.r) := cell_of b4f rfl
  have y4 : w18.cell? ⟨P4, 4, none⟩ = some ((.slice pw m qw)) := cell_of b4f rfl
  have HE18 := (show ∀ W v v', RowT 0 W v m Fc → RowT 0 W v' m Fc → Calls Try.prog 13 #[.agg #[.int .i64 A.k, .int .i64 A.m, .string A.x, .int .i64 A.r, v], .agg #[.int .i64 A.k, .int .i64 A.m, .string A.x, .int .i64 A.r, v']] W fun e w' => e = .returned (.bool true) ∧ Kb 0 W w' from HEQ) w18 _ _ ((rh17.1.mono (Nat.zero_le _)).keep k1718) (r4e.keep k1418)
  have HK18 : Hid (Kb 0 w14 w18) := k1418
  have HW18 : Hid (w18 = w17.alloc (.cells #[.int .i64 A.k, .int .i64 A.m, .string A.x, .int .i64 A.r, (.slice ph m qh)] 32) ∧ P7 = w17.heap.size) := (⟨hw18, hP7⟩ : _ ∧ _)
  clear rh17 k17 k1718 b18 hP7 hw18 k1418 k114 k414 b6e mde ze6 ze4 b4e r4e b4f HK16 HEQ
  go_upto_region 25 with fail
  rw [← (show _ ∧ _ from HW18).1, ← (show _ ∧ _ from HW18).2]
  clear HW18
  go_wp2_with fail
  refine HE18.mono ?_
  rintro e w19 ⟨rfl, k19⟩
  clear HE18 h0 h1 h2 h3 h4 y0 y1 y2 y3 y4
  obtain ⟨k114, k414, b6e, mde, ze6, ze4, b4e, r4e⟩ := (show Kb 0 w1 w14 ∧ Kb 0 w4 w14 ∧ w14.heap[P6]? = some (.cells #[.int .i64 A.k, .int .i64 A.m, .string A.x, .int .i64 A.r, (.slice pg m qg)] 32 (0, 0)) ∧ MdG (P5 + 1) P6 w14 (.slice pg m qg) m (fun i => (Fc i).c) gg VG GG 1 ∧ P6 < w14.heap.size ∧ P4 < w14.heap.size ∧ w14.heap[P4]? = some (.cells #[.int .i64 A.k, .int .i64 A.m, .string A.x, .int .i64 A.r, (.slice pw m qw)] 32 (0, 0)) ∧ RowT 0 w14 (.slice pw m qw) m Fc from HK14)
  obtain ⟨hbd, hbm, hsx, hsc, kw1, bx1, zw1⟩ := (show Bg n F a ∧ Bg m Fc A ∧ sm (fun i => 1 + 4 * (F i).c) n ≤ 5000000 ∧ sm (fun i => 1 + 4 * (Fc i).c) m ≤ 1000000 ∧ Kb 0 w w1 ∧ w1.heap[w.heap.size]? = some (.cells #[.int .i64 a.k, .int .i64 a.m, .string a.x, .int .i64 a.r, (.slice pa n ca)] 26 (0, 0)) ∧ w.heap.size < w1.heap.size from HBD)
  have k1419 := (show Kb 0 w14 w18 from HK18).trans k19
  have z19 := k1419.size
  have b6f : w19.heap[P6]? = some (.cells #[.int .i64 A.k, .int .i64 A.m, .string A.x, .int .i64 A.r, (.slice pg m qg)] 32 (0, 0)) := (k1419.block _ (Nat.zero_le _) (by omega)).trans b6e
  have g0 : w19.cell? ⟨P6, 0, none⟩ = some (.int .i64 A.k) := cell_of b6f rfl
  have g1 : w19.cell? ⟨P6, 1, none⟩ = some (.int .i64 A.m) := cell_of b6f rfl
  have g2 : w19.cell? ⟨P6, 2, none⟩ = some (.string A.x) := cell_of b6f rfl
  have g3 : w19.cell? ⟨P6, 3, none⟩ = some (.int .i64 A.r) := cell_of b6f rfl
  have g4 : w19.cell? ⟨P6, 4, none⟩ = some ((.slice pg m qg)) := cell_of b6f rfl
  have HQ := held_graph (a := A) w19 1 (mde.block (fun q _ hq => k1419.block q (Nat.zero_le _) (by omega))) (by omega) hbm.hn (fun i hi => hbm.hc i hi) (by omega) (by omega)
  unfold grv at HQ
  rw [← (show KG = _ from HKG)] at HQ
  have HK19 : Hid (Kb 0 w w19) := (kw1.trans k114).trans k1419
  clear hbd hbm hsx hsc kw1 bx1 zw1 k114 k414 b6e mde ze6 ze4 b4e r4e k1419 z19 b6f k19 HK14 HK18 HKG HK8 HBD HBK
  go_wp2_with fail
  refine HQ.mono ?_
  rintro e w20 ⟨rfl, k20⟩
  have HF : Hid (Kb 0 w w20) := (show Kb 0 w w19 from HK19).trans k20
  clear HQ g0 g1 g2 g3 g4 HK19 k20
  go_wp2_with fail
  go_ret
  exact ⟨rfl, HF⟩
end Go.Proofs.Ytdgainfmidoemaa.Fo
