import Derived.Deep.RegionHeld3
import Derived.Test.YtdgainfmidoemaaMGee
import Derived.Test.YtdgainfmidoemaaMGce
import Derived.Test.YtdgainfmidoemaaMGef
import Derived.Test.YtdgainfmidoemaaMSua
namespace Go.Proofs.Ytdgainfmidoemaa.Fo
open Go.ChangeShapes Go.WideShapes Go.ChangeAt Go.RowKit
set_option linter.unusedVariables false
set_option maxRecDepth 100000
/-- a row of bytes of one's own, made since W0 -/
def An (W0 W : World) (v : Value) (N : Nat) (A : Nat → Int) (g : Nat) : Prop := OwnR W v g N (fun i => .int .u8 (A i)) ∧ (N ≠ 0 → W0.heap.size ≤ g ∧ g < W.heap.size)
set_option maxHeartbeats 32000000 in
theorem law_pack {pa : Option Addr} {ca n N : Nat} {F : Nat → Td} {a : Gv} {A : Nat → Int} (hsp : ∀ W v, RowT 0 W v n F → Bg n F a → Calls Try.prog 24 #[grv a v] W fun e w' => ∃ v' g, e = .returned v' ∧ An W w' v' N A g ∧ Kb 0 W w') (him : ∀ W v, RowT 0 W v n F → Bg n F a → Calls Try.prog 25 #[grv a v] W fun e w' => ∃ v' g, e = .returned v' ∧ An W w' v' N A g ∧ Kb 0 W w') (hN : N ≤ 8192) (w : World) (ha : RowT 0 w (.slice pa n ca) n F) (hx : (a.x.size : Int) < 140737488355328) (hn : (n : Int) < 140737488355328) (hF : BT F n) :
    Calls Try.prog 7 #[grv a (.slice pa n ca)] w fun e w' => e = .returned (.bool true) ∧ Kb 0 w w' := by
  obtain ⟨w0, hw0⟩ : ∃ w0, w0 = w.alloc (.cells #[.int .i64 a.k, .int .i64 a.m, .string a.x, .int .i64 a.r, (.slice pa n ca)] 26) := ⟨_, rfl⟩
  have k0 : Kb 0 w w0 := by rw [hw0]; exact kb_alloc _ _ _
  have b0 : w0.heap[w.heap.size]? = some (.cells #[.int .i64 a.k, .int .i64 a.m, .string a.x, .int .i64 a.r, (.slice pa n ca)] 26 (0, 0)) := by rw [hw0]; exact alloc_new _ _ _
  have z0 : w0.heap.size = w.heap.size + 1 := by rw [hw0]; exact World.size_alloc _ _
  have HS0 : Hid (Calls Try.prog 9 #[.agg #[.int .i64 a.k, .int .i64 a.m, .string a.x, .int .i64 a.r, (.slice pa n ca)], .int .i64 1048576] w0 (Szd (a.x.size + (n + sm (szT F) n)) 1048576 w0)) := sz_graph w0 1048576 (ha.keep k0) hx hn hF (by omega) (by omega)
  have HSP : Hid (∀ W v, RowT 0 W v n F → Bg n F a → Calls Try.prog 24 #[.agg #[.int .i64 a.k, .int .i64 a.m, .string a.x, .int .i64 a.r, v]] W fun e w' => ∃ v' g, e = .returned v' ∧ An W w' v' N A g ∧ Kb 0 W w') := hsp
  have HIM : Hid (∀ W v, RowT 0 W v n F → Bg n F a → Calls Try.prog 25 #[.agg #[.int .i64 a.k, .int .i64 a.m, .string a.x, .int .i64 a.r, v]] W fun e w' => ∃ v' g, e = .returned v' ∧ An W w' v' N A g ∧ Kb 0 W w') := him
  have HW0 : Hid (w0 = w.alloc (.cells #[.int .i64 a.k, .int .i64 a.m, .string a.x, .int .i64 a.r, (.slice pa n ca)] 26)) := hw0
  have HBX : Hid (Kb 0 w w0 ∧ w0.heap[w.heap.size]? = some (.cells #[.int .i64 a.k, .int .i64 a.m, .string a.x, .int .i64 a.r, (.slice pa n ca)] 26 (0, 0)) ∧ w0.heap.size = w.heap.size + 1 ∧ RowT 0 w (.slice pa n ca) n F) := (⟨k0, b0, z0, ha⟩ : _ ∧ _)
  have HEB : Hid (∀ W v v', RowV W v N (fun i => .int .u8 (A i)) → RowV W v' N (fun i => .int .u8 (A i)) → Calls Try.prog 17 #[v, v'] W fun e w' => e = .returned (.bool true) ∧ Kb 0 W w') := (fun W v v' h h' => (eq_byts W h h' (by omega)).mono (fun e w' ⟨he, hd⟩ => ⟨he, kb_drewN hd⟩) : ∀ W v v', _)
  have hNI : (N : Int) ≤ 8192 := by omega
  clear ha hx hn hF hsp him k0 b0 z0 hw0 hN
  unfold grv
  go_enter Try.func7, Try.ntmps7
  go_wp2_with fail
  rw [← (show w0 = _ from HW0)]
  clear HW0
  refine (show Calls Try.prog 9 _ w0 _ from HS0).mono ?_
  rintro e w1 ⟨r, rfl, hr1, hr2, hr3, k1⟩
  clear HS0
  obtain ⟨k0, b0, z0, ha⟩ := (show Kb 0 w w0 ∧ w0.heap[w.heap.size]? = some (.cells #[.int .i64 a.k, .int .i64 a.m, .string a.x, .int .i64 a.r, (.slice pa n ca)] 26 (0, 0)) ∧ w0.heap.size = w.heap.size + 1 ∧ RowT 0 w (.slice pa n ca) n F from HBX)
  have kw1 := k0.trans k1
  rcases Int.lt_or_le r 0 with h | h
  · have HB : Hid (Kb 0 w w1) := kw1
    clear k1 hr1 HSP HIM HBX k0 b0 kw1 z0 ha HEB
    go_wp2_with fail
    go_ret
    exact ⟨rfl, HB⟩
  have h' : ¬ r < 0 := by omega
  have hbd : Bg n F a := bg_of (by have := hr1 h; omega)
  have hsx : sm (fun i => 1 + 4 * (F i).c) n ≤ 5000000 := by have := hr1 h; have := sm_four F n; omega
  have bx1 : w1.heap[w.heap.size]? = some (.cells #[.int .i64 a.k, .int .i64 a.m, .string a.x, .int .i64 a.r, (.slice pa n ca)] 26 (0, 0)) := (k1.block _ (Nat.zero_le _) (by omega)).trans b0
  have HTO : Hid (∀ W, Kb 0 w1 W → Calls Try.prog 11 #[.agg #[.int .i64 a.k, .int .i64 a.m, .string a.x, .int .i64 a.r, .slice pa n ca]] W fun e w' => ∃ v', e = .returned (.agg #[.int .i64 a.k, .int .i64 a.m, .string a.x, .int .i64 a.r, v']) ∧ RowTX W.heap.size w' v' n F ∧ Kb 0 W w') := (fun W k => to_graph2 W (fun W' k' => to_things2 W' (((ha.keep kw1).keep k).keep k') hbd.hn (fun i hi => hbd.hc i hi)) : ∀ W, _)
  have HEX : Hid (∀ W v v', RowT 0 W v n F → RowT 0 W v' n F → Calls Try.prog 13 #[.agg #[.int .i64 a.k, .int .i64 a.m, .string a.x, .int .i64 a.r, v], .agg #[.int .i64 a.k, .int .i64 a.m, .string a.x, .int .i64 a.r, v']] W fun e w' => e = .returned (.bool true) ∧ Kb 0 W w') := (fun W v v' h h' => eq_graph W h h' hbd : ∀ W v v', _)
  have HBD : Hid (Bg n F a ∧ sm (fun i => 1 + 4 * (F i).c) n ≤ 5000000 ∧ Kb 0 w w1 ∧ w1.heap[w.heap.size]? = some (.cells #[.int .i64 a.k, .int .i64 a.m, .string a.x, .int .i64 a.r, (.slice pa n ca)] 26 (0, 0)) ∧ w.heap.size < w1.heap.size) := (⟨hbd, hsx, kw1, bx1, by have := k1.size; omega⟩ : _ ∧ _)
  have HBK : Hid (∀ W, Kb 0 w1 W → W.cell? ⟨w.heap.size, 0, none⟩ = some (.int .i64 a.k) ∧ W.cell? ⟨w.heap.size, 1, none⟩ = some (.int .i64 a.m) ∧ W.cell? ⟨w.heap.size, 2, none⟩ = some (.string a.x) ∧ W.cell? ⟨w.heap.size, 3, none⟩ = some (.int .i64 a.r) ∧ W.cell? ⟨w.heap.size, 4, none⟩ = some ((.slice pa n ca))) := (fun W k => ⟨k.cell (cell_of bx1 rfl), k.cell (cell_of bx1 rfl), k.cell (cell_of bx1 rfl), k.cell (cell_of bx1 rfl), k.cell (cell_of bx1 rfl)⟩ : ∀ W, _)
  obtain ⟨c0, c1, c2, c3, c4⟩ := (show ∀ W, Kb 0 w1 W → _ from HBK) w1 (Kb.refl _ _)
  have HT1 := (show ∀ W, Kb 0 w1 W → Calls Try.prog 11 #[.agg #[.int .i64 a.k, .int .i64 a.m, .string a.x, .int .i64 a.r, .slice pa n ca]] W fun e w' => ∃ v', e = .returned (.agg #[.int .i64 a.k, .int .i64 a.m, .string a.x, .int .i64 a.r, v']) ∧ RowTX W.heap.size w' v' n F ∧ Kb 0 W w' from HTO) w1 (Kb.refl _ _)
  clear hr1 k1 HBX k0 b0 kw1 ha hbd hsx bx1 z0
  go_wp2_with fail
  refine HT1.mono ?_
  rintro e w2 ⟨v1, rfl, r1, k2⟩
  clear HT1 c0 c1 c2 c3 c4
  have HS2 := (show ∀ W v, RowT 0 W v n F → Bg n F a → Calls Try.prog 24 #[.agg #[.int .i64 a.k, .int .i64 a.m, .string a.x, .int .i64 a.r, v]] W fun e w' => ∃ v' g, e = .returned v' ∧ An W w' v' N A g ∧ Kb 0 W w' from HSP) w2 v1 (r1.1.mono (Nat.zero_le _)) (show Bg n F a ∧ _ from HBD).1
  obtain ⟨p1, q1, rfl, -⟩ := id r1.1
  have HK2 : Hid (Kb 0 w1 w2) := k2
  clear r1 k2
  go_wp2_with fail
  refine HS2.mono ?_
  rintro e w3 ⟨vw, gw, rfl, aw, k3⟩
  clear HS2 HSP
  obtain ⟨pw, qw, rfl, -⟩ := aw.1.sl
  have k13 : Kb 0 w1 w3 := (show Kb 0 w1 w2 from HK2).trans k3
  have HK3 : Hid (Kb 0 w1 w3 ∧ OwnR w3 (.slice pw N qw) gw N (fun i => .int .u8 (A i)) ∧ (N ≠ 0 → gw < w3.heap.size)) := (⟨k13, aw.1, fun q => (aw.2 q).2⟩ : _ ∧ _)
  obtain ⟨c0, c1, c2, c3, c4⟩ := (show ∀ W, Kb 0 w1 W → _ from HBK) w3 k13
  have HT2 := (show ∀ W, Kb 0 w1 W → Calls Try.prog 11 #[.agg #[.int .i64 a.k, .int .i64 a.m, .string a.x, .int .i64 a.r, .slice pa n ca]] W fun e w' => ∃ v', e = .returned (.agg #[.int .i64 a.k, .int .i64 a.m, .string a.x, .int .i64 a.r, v']) ∧ RowTX W.heap.size w' v' n F ∧ Kb 0 W w' from HTO) w3 k13
  have HK13b : Hid (Kb 0 w1 w3) := k13
  clear aw k3 k13 HK2
  go_wp2_with fail
  refine HT2.mono ?_
  rintro e w5 ⟨vx, rfl, rx5, k5⟩
  clear HT2 c0 c1 c2 c3 c4
  obtain ⟨px, qx, rfl, -⟩ := id rx5.1
  obtain ⟨w6, hw6⟩ : ∃ w6, w6 = w5.alloc (.cells #[.int .i64 a.k, .int .i64 a.m, .string a.x, .int .i64 a.r, (.slice px n qx)] 32) := ⟨_, rfl⟩
  have k56 : Kb 0 w5 w6 := by rw [hw6]; exact kb_alloc _ _ _
  have b6 : w6.heap[w5.heap.size]? = some (.cells #[.int .i64 a.k, .int .i64 a.m, .string a.x, .int .i64 a.r, (.slice px n qx)] 32 (0, 0)) := by rw [hw6]; exact alloc_new _ _ _
  have z6 : w6.heap.size = w5.heap.size + 1 := by rw [hw6]; exact World.size_alloc _ _
  obtain ⟨P5, hP5⟩ : ∃ P5, P5 = w5.heap.size := ⟨_, rfl⟩
  obtain ⟨gx, VX, GX, ox⟩ := rx5.2
  rw [← hP5] at b6 z6 ox
  have rx6 : RowT 0 w6 (.slice px n qx) n F := (rx5.1.mono (Nat.zero_le _)).keep k56
  have HK6 : Hid (Kb 0 w3 w6 ∧ w6.heap[P5]? = some (.cells #[.int .i64 a.k, .int .i64 a.m, .string a.x, .int .i64 a.r, (.slice px n qx)] 32 (0, 0)) ∧ w6.heap.size = P5 + 1 ∧ w3.heap.size ≤ P5 ∧ RowT 0 w6 (.slice px n qx) n F ∧ OwG w3.heap.size P5 w6 (.slice px n qx) n (fun i => (F i).c) gx VX GX) := (⟨k5.trans k56, b6, z6, by rw [hP5]; exact k5.size, rx6, ox.block (fun q _ h2 => k56.block q (Nat.zero_le _) (by omega))⟩ : _ ∧ _)
  have x0 : w6.cell? ⟨P5, 0, none⟩ = some (.int .i64 a.k) := cell_of b6 rfl
  have x1 : w6.cell? ⟨P5, 1, none⟩ = some (.int .i64 a.m) := cell_of b6 rfl
  have x2 : w6.cell? ⟨P5, 2, none⟩ = some (.string a.x) := cell_of b6 rfl
  have x3 : w6.cell? ⟨P5, 3, none⟩ = some (.int .i64 a.r) := cell_of b6 rfl
  have x4 : w6.cell? ⟨P5, 4, none⟩ = some ((.slice px n qx)) := cell_of b6 rfl
  have HI6 := (show ∀ W v, RowT 0 W v n F → Bg n F a → Calls Try.prog 25 #[.agg #[.int .i64 a.k, .int .i64 a.m, .string a.x, .int .i64 a.r, v]] W fun e w' => ∃ v' g, e = .returned v' ∧ An W w' v' N A g ∧ Kb 0 W w' from HIM) w6 _ rx6 (show Bg n F a ∧ _ from HBD).1
  have HW6 : Hid (w6 = w5.alloc (.cells #[.int .i64 a.k, .int .i64 a.m, .string a.x, .int .i64 a.r, (.slice px n qx)] 32) ∧ P5 = w5.heap.size) := (⟨hw6, hP5⟩ : _ ∧ _)
  clear rx5 k5 k56 b6 z6 rx6 ox hw6 hP5
  go_upto_region 7 with fail
  rw [← (show _ ∧ _ from HW6).1, ← (show _ ∧ _ from HW6).2]
  clear HW6
  go_wp2_with fail
  refine HI6.mono ?_
  rintro e w7 ⟨vg, gg, rfl, ag, k7⟩
  clear HI6 x0 x1 x2 x3 x4
  obtain ⟨pg, qg, rfl, -⟩ := ag.1.sl
  obtain ⟨k13, ow3, hw3⟩ := (show Kb 0 w1 w3 ∧ OwnR w3 (.slice pw N qw) gw N (fun i => .int .u8 (A i)) ∧ (N ≠ 0 → gw < w3.heap.size) from HK3)
  obtain ⟨k36, b5, z6, h36, rx6, ox6⟩ := (show Kb 0 w3 w6 ∧ w6.heap[P5]? = some (.cells #[.int .i64 a.k, .int .i64 a.m, .string a.x, .int .i64 a.r, (.slice px n qx)] 32 (0, 0)) ∧ w6.heap.size = P5 + 1 ∧ w3.heap.size ≤ P5 ∧ RowT 0 w6 (.slice px n qx) n F ∧ OwG w3.heap.size P5 w6 (.slice px n qx) n (fun i => (F i).c) gx VX GX from HK6)
  have k37 := k36.trans k7
  have ow7 : OwnR w7 (.slice pw N qw) gw N (fun i => .int .u8 (A i)) := ow3.kb (fun q => k37.block _ (Nat.zero_le _) (hw3 q))
  have HE8 := (show ∀ W v v', RowV W v N (fun i => .int .u8 (A i)) → RowV W v' N (fun i => .int .u8 (A i)) → _ from HEB) w7 _ _ ag.1.row ow7.row
  have b57 := (k7.block _ (Nat.zero_le _) (by omega)).trans b5
  have HK7 : Hid (Kb 0 w1 w7 ∧ w7.heap[P5]? = some (.cells #[.int .i64 a.k, .int .i64 a.m, .string a.x, .int .i64 a.r, (.slice px n qx)] 32 (0, 0)) ∧ P5 < w7.heap.size ∧ w3.heap.size ≤ P5 ∧ RowT 0 w7 (.slice px n qx) n F ∧ OwG w3.heap.size P5 w7 (.slice px n qx) n (fun i => (F i).c) gx VX GX ∧ OwnR w7 (.slice pw N qw) gw N (fun i => .int .u8 (A i)) ∧ (N ≠ 0 → gw < w3.heap.size) ∧ OwnR w7 (.slice pg N qg) gg N (fun i => .int .u8 (A i)) ∧ (N ≠ 0 → P5 < gg ∧ gg < w7.heap.size) ∧ Kb 0 w3 w7 ∧ Kb 0 w1 w3) := (⟨k13.trans k37, b57, by have := k7.size; omega, h36, rx6.keep k7, ox6.block (fun q _ h2 => k7.block q (Nat.zero_le _) (by omega)), ow7, hw3, ag.1, fun q => ⟨by have := (ag.2 q).1; omega, (ag.2 q).2⟩, k37, k13⟩ : _ ∧ _)
  clear k13 ow3 hw3 k36 b5 z6 h36 rx6 ox6 k37 ow7 b57 ag k7 HK3 HK6
  go_wp2_with fail
  refine HE8.mono ?_
  rintro e w8 ⟨rfl, k8⟩
  clear HE8
  obtain ⟨k17, b57, hp5, h36, rx7, ox7, ow7, hgw, og7, hgg, k37, k13⟩ := (show Kb 0 w1 w7 ∧ w7.heap[P5]? = some (.cells #[.int .i64 a.k, .int .i64 a.m, .string a.x, .int .i64 a.r, (.slice px n qx)] 32 (0, 0)) ∧ P5 < w7.heap.size ∧ w3.heap.size ≤ P5 ∧ RowT 0 w7 (.slice px n qx) n F ∧ OwG w3.heap.size P5 w7 (.slice px n qx) n (fun i => (F i).c) gx VX GX ∧ OwnR w7 (.slice pw N qw) gw N (fun i => .int .u8 (A i)) ∧ (N ≠ 0 → gw < w3.heap.size) ∧ OwnR w7 (.slice pg N qg) gg N (fun i => .int .u8 (A i)) ∧ (N ≠ 0 → P5 < gg ∧ gg < w7.heap.size) ∧ Kb 0 w3 w7 ∧ Kb 0 w1 w3 from HK7)
  have HCX : Hid (∀ W, Kb 0 w7 W → (W.cell? ⟨P5, 0, none⟩ = some (.int .i64 a.k) ∧ W.cell? ⟨P5, 1, none⟩ = some (.int .i64 a.m) ∧ W.cell? ⟨P5, 2, none⟩ = some (.string a.x) ∧ W.cell? ⟨P5, 3, none⟩ = some (.int .i64 a.r) ∧ W.cell? ⟨P5, 4, none⟩ = some ((.slice px n qx))) ∧ W.cell? ⟨w.heap.size, 0, none⟩ = some (.int .i64 a.k) ∧ W.cell? ⟨w.heap.size, 1, none⟩ = some (.int .i64 a.m) ∧ W.cell? ⟨w.heap.size, 2, none⟩ = some (.string a.x) ∧ W.cell? ⟨w.heap.size, 3, none⟩ = some (.int .i64 a.r) ∧ W.cell? ⟨w.heap.size, 4, none⟩ = some ((.slice pa n ca))) := (fun W k => ⟨⟨k.cell (cell_of b57 rfl), k.cell (cell_of b57 rfl), k.cell (cell_of b57 rfl), k.cell (cell_of b57 rfl), k.cell (cell_of b57 rfl)⟩, (show ∀ W, Kb 0 w1 W → _ from HBK) W (k17.trans k)⟩ : ∀ W, _)
  have HTW : Hid (∀ W, Kb 0 w7 W → Calls Try.prog 11 #[.agg #[.int .i64 a.k, .int .i64 a.m, .string a.x, .int .i64 a.r, .slice pa n ca]] W fun e w' => ∃ v', e = .returned (.agg #[.int .i64 a.k, .int .i64 a.m, .string a.x, .int .i64 a.r, v']) ∧ RowTX W.heap.size w' v' n F ∧ Kb 0 W w') := (fun W k => (show ∀ W, Kb 0 w1 W → Calls Try.prog 11 #[.agg #[.int .i64 a.k, .int .i64 a.m, .string a.x, .int .i64 a.r, .slice pa n ca]] W fun e w' => ∃ v', e = .returned (.agg #[.int .i64 a.k, .int .i64 a.m, .string a.x, .int .i64 a.r, v']) ∧ RowTX W.heap.size w' v' n F ∧ Kb 0 W w' from HTO) W (k17.trans k) : ∀ W, _)
  have HEW : Hid (∀ W v2, Kb 0 w7 W → RowT 0 W v2 n F → Calls Try.prog 13 #[.agg #[.int .i64 a.k, .int .i64 a.m, .string a.x, .int .i64 a.r, .slice px n qx], .agg #[.int .i64 a.k, .int .i64 a.m, .string a.x, .int .i64 a.r, v2]] W fun e w' => e = .returned (.bool true) ∧ Kb 0 W w') := (fun W v2 k h2 => (show ∀ W v v', RowT 0 W v n F → RowT 0 W v' n F → _ from HEX) W _ _ (rx7.keep k) h2 : ∀ W v2, _)
  obtain ⟨⟨x0, x1, x2, x3, x4⟩, c0, c1, c2, c3, c4⟩ := (show ∀ W, Kb 0 w7 W → _ from HCX) w8 k8
  have HS9 : Hid ((w8.cell? ⟨P5, 0, none⟩ = some (.int .i64 a.k) ∧ w8.cell? ⟨P5, 1, none⟩ = some (.int .i64 a.m) ∧ w8.cell? ⟨P5, 2, none⟩ = some (.string a.x) ∧ w8.cell? ⟨P5, 3, none⟩ = some (.int .i64 a.r) ∧ w8.cell? ⟨P5, 4, none⟩ = some ((.slice px n qx))) ∧ w8.cell? ⟨w.heap.size, 0, none⟩ = some (.int .i64 a.k) ∧ w8.cell? ⟨w.heap.size, 1, none⟩ = some (.int .i64 a.m) ∧ w8.cell? ⟨w.heap.size, 2, none⟩ = some (.string a.x) ∧ w8.cell? ⟨w.heap.size, 3, none⟩ = some (.int .i64 a.r) ∧ w8.cell? ⟨w.heap.size, 4, none⟩ = some ((.slice pa n ca))) := (show ∀ W, Kb 0 w7 W → _ from HCX) w8 k8
  have HK8 : Hid (Kb 0 w7 w8) := k8
  clear k17 b57 hp5 h36 rx7 ox7 ow7 hgw og7 hgg k37 k13 k8
  go_wp2_with fail
  go_region_held3 (fun W' => (W'.cell? ⟨P5, 0, none⟩ = some (.int .i64 a.k) ∧ W'.cell? ⟨P5, 1, none⟩ = some (.int .i64 a.m) ∧ W'.cell? ⟨P5, 2, none⟩ = some (.string a.x) ∧ W'.cell? ⟨P5, 3, none⟩ = some (.int .i64 a.r) ∧ W'.cell? ⟨P5, 4, none⟩ = some ((.slice px n qx))) ∧ W'.cell? ⟨w.heap.size, 0, none⟩ = some (.int .i64 a.k) ∧ W'.cell? ⟨w.heap.size, 1, none⟩ = some (.int .i64 a.m) ∧ W'.cell? ⟨w.heap.size, 2, none⟩ = some (.string a.x) ∧ W'.cell? ⟨w.heap.size, 3, none⟩ = some (.int .i64 a.r) ∧ W'.cell? ⟨w.heap.size, 4, none⟩ = some ((.slice pa n ca))) (first | exact HS9 | exact s10 | exact s11)
    ((first
      | (go_at_call 11; refine ((show ∀ W, Kb 0 w7 W → _ from HTW) _ (by exact Kb.drewN (show Kb 0 w7 w8 from HK8) 1)).mono ?_; rintro e w10 ⟨v2, rfl, o2, k10⟩; have K10 : Kb 0 w7 w10 := (show Kb 0 w7 w8 from HK8).trans ⟨k10.os, k10.output, k10.size, k10.block⟩; have s10 := (show ∀ W, Kb 0 w7 W → _ from HCX) w10 K10)
      | (go_at_call 13; refine ((show ∀ W v2, _ from HEW) _ _ K10 (o2.1.mono (Nat.zero_le _))).mono ?_; rintro e w11 ⟨rfl, k11⟩; have K11 : Kb 0 w7 w11 := K10.trans k11; have s11 := (show ∀ W, Kb 0 w7 W → _ from HCX) w11 K11)))
  clear x0 x1 x2 x3 x4 c0 c1 c2 c3 c4 HCX HTW HEW o2 k10 K10 s10 k11 s11 HS9 HK8 HEX
  obtain ⟨k17, b57, hp5, h36, rx7, ox7, ow7, hgw, og7, hgg, k37, k13⟩ := (show Kb 0 w1 w7 ∧ w7.heap[P5]? = some (.cells #[.int .i64 a.k, .int .i64 a.m, .string a.x, .int .i64 a.r, (.slice px n qx)] 32 (0, 0)) ∧ P5 < w7.heap.size ∧ w3.heap.size ≤ P5 ∧ RowT 0 w7 (.slice px n qx) n F ∧ OwG w3.heap.size P5 w7 (.slice px n qx) n (fun i => (F i).c) gx VX GX ∧ OwnR w7 (.slice pw N qw) gw N (fun i => .int .u8 (A i)) ∧ (N ≠ 0 → gw < w3.heap.size) ∧ OwnR w7 (.slice pg N qg) gg N (fun i => .int .u8 (A i)) ∧ (N ≠ 0 → P5 < gg ∧ gg < w7.heap.size) ∧ Kb 0 w3 w7 ∧ Kb 0 w1 w3 from HK7)
  obtain ⟨hbd, hsx, kw1, bx1, zw1⟩ := (show Bg n F a ∧ sm (fun i => 1 + 4 * (F i).c) n ≤ 5000000 ∧ Kb 0 w w1 ∧ w1.heap[w.heap.size]? = some (.cells #[.int .i64 a.k, .int .i64 a.m, .string a.x, .int .i64 a.r, (.slice pa n ca)] 26 (0, 0)) ∧ w.heap.size < w1.heap.size from HBD)
  have z11 := K11.size
  have b5b : w11.heap[P5]? = some (.cells #[.int .i64 a.k, .int .i64 a.m, .string a.x, .int .i64 a.r, (.slice px n qx)] 32 (0, 0)) := (K11.block _ (Nat.zero_le _) hp5).trans b57
  have x0 : w11.cell? ⟨P5, 0, none⟩ = some (.int .i64 a.k) := cell_of b5b rfl
  have x1 : w11.cell? ⟨P5, 1, none⟩ = some (.int .i64 a.m) := cell_of b5b rfl
  have x2 : w11.cell? ⟨P5, 2, none⟩ = some (.string a.x) := cell_of b5b rfl
  have x3 : w11.cell? ⟨P5, 3, none⟩ = some (.int .i64 a.r) := cell_of b5b rfl
  have x4 : w11.cell? ⟨P5, 4, none⟩ = some ((.slice px n qx)) := cell_of b5b rfl
  have ox11 := ox7.block (W' := w11) (fun q _ hq => K11.block q (Nat.zero_le _) (by omega))
  have HM := mark_graph (a := a) w11 1 ox11 (by omega) hbd.hn (fun i hi => hbd.hc i hi) (by omega) (by omega)
  unfold grv at HM
  obtain ⟨KX, hKX⟩ : ∃ KX : Int, KX = 1 + (sm (fun i => 1 + 4 * (F i).c) n : Int) := ⟨_, rfl⟩
  rw [← hKX] at HM
  have hKX0 : ¬ KX < 0 := by omega
  have HK11 : Hid (Kb 0 w7 w11) := K11
  clear k17 b57 hp5 h36 rx7 ox7 ow7 hgw og7 hgg k37 k13 hbd hsx kw1 bx1 zw1 z11 b5b ox11 K11 hKX
  go_wp2_with fail
  refine HM.mono ?_
  rintro e w12 ⟨rfl, kq12, md12⟩
  clear HM md12 x0 x1 x2 x3 x4
  obtain ⟨k17, b57, hp5, h36, rx7, ox7, ow7, hgw, og7, hgg, k37, k13⟩ := (show Kb 0 w1 w7 ∧ w7.heap[P5]? = some (.cells #[.int .i64 a.k, .int .i64 a.m, .string a.x, .int .i64 a.r, (.slice px n qx)] 32 (0, 0)) ∧ P5 < w7.heap.size ∧ w3.heap.size ≤ P5 ∧ RowT 0 w7 (.slice px n qx) n F ∧ OwG w3.heap.size P5 w7 (.slice px n qx) n (fun i => (F i).c) gx VX GX ∧ OwnR w7 (.slice pw N qw) gw N (fun i => .int .u8 (A i)) ∧ (N ≠ 0 → gw < w3.heap.size) ∧ OwnR w7 (.slice pg N qg) gg N (fun i => .int .u8 (A i)) ∧ (N ≠ 0 → P5 < gg ∧ gg < w7.heap.size) ∧ Kb 0 w3 w7 ∧ Kb 0 w1 w3 from HK7)
  have K11 := (show Kb 0 w7 w11 from HK11)
  have z11 := K11.size
  have z12 := kq12.size
  have hz37 := k37.size
  have k3c : Kb 0 w3 w12 := ⟨kq12.os.trans (k37.trans K11).os, kq12.output.trans (k37.trans K11).output, Nat.le_trans (k37.trans K11).size z12, fun q _ hq => (kq12.block q (by omega) (by omega)).trans ((k37.trans K11).block q (Nat.zero_le _) hq)⟩
  have ow12 : OwnR w12 (.slice pw N qw) gw N (fun i => .int .u8 (A i)) := ow7.kb (fun q => by have := hgw q; exact (kq12.block gw (by omega) (by omega)).trans (K11.block gw (Nat.zero_le _) (by omega)))
  have og12 : OwnR w12 (.slice pg N qg) gg N (fun i => .int .u8 (A i)) := og7.kb (fun q => by have := hgg q; exact (kq12.block gg (by omega) (by omega)).trans (K11.block gg (Nat.zero_le _) (by omega)))
  have HE12 := (show ∀ W v v', RowV W v N (fun i => .int .u8 (A i)) → RowV W v' N (fun i => .int .u8 (A i)) → _ from HEB) w12 _ _ og12.row ow12.row
  have HK12 : Hid (Kb 0 w1 w12 ∧ Kb 0 w3 w12 ∧ OwnR w12 (.slice pw N qw) gw N (fun i => .int .u8 (A i)) ∧ OwnR w12 (.slice pg N qg) gg N (fun i => .int .u8 (A i)) ∧ (N ≠ 0 → gw < gg ∧ gg < w12.heap.size ∧ w3.heap.size ≤ gg)) := (⟨k13.trans k3c, k3c, ow12, og12, fun q => by have := hgw q; have := hgg q; omega⟩ : _ ∧ _)
  clear k17 b57 hp5 h36 rx7 ox7 ow7 hgw og7 hgg k37 k13 K11 z11 z12 hz37 k3c ow12 og12 kq12 HK11 HK7
  go_wp2_with fail
  refine HE12.mono ?_
  rintro e w13 ⟨rfl, k13⟩
  clear HE12
  obtain ⟨k1c, k3c, ow12, og12, hgg⟩ := (show Kb 0 w1 w12 ∧ Kb 0 w3 w12 ∧ OwnR w12 (.slice pw N qw) gw N (fun i => .int .u8 (A i)) ∧ OwnR w12 (.slice pg N qg) gg N (fun i => .int .u8 (A i)) ∧ (N ≠ 0 → gw < gg ∧ gg < w12.heap.size ∧ w3.heap.size ≤ gg) from HK12)
  have z13 := k13.size
  have ow13 := ow12.kb (W' := w13) (fun q => k13.block gw (Nat.zero_le _) (by have := hgg q; omega))
  have og13 := og12.kb (W' := w13) (fun q => k13.block gg (Nat.zero_le _) (by have := hgg q; omega))
  have HM := mark_byts w13 1 og13 (by omega) (by omega) (by omega)
  obtain ⟨KG, hKG⟩ : ∃ KG : Int, KG = 1 + (N : Int) := ⟨_, rfl⟩
  rw [← hKG] at HM
  have HK13 : Hid (Kb 0 w1 w13 ∧ Kb 0 w3 w13 ∧ OwnR w13 (.slice pw N qw) gw N (fun i => .int .u8 (A i)) ∧ (N ≠ 0 → gw < gg ∧ gg < w13.heap.size ∧ w3.heap.size ≤ gg)) := (⟨k1c.trans k13, k3c.trans k13, ow13, fun q => by have := hgg q; omega⟩ : _ ∧ _)
  have HKG : Hid (KG = 1 + (N : Int)) := hKG
  have hKG0 : ¬ KG < 0 := by omega
  clear k1c k3c ow12 og12 hgg z13 ow13 og13 k13 HK12 hKG
  go_wp2_with fail
  refine HM.mono ?_
  rintro e w14 ⟨rfl, kq14, om14⟩
  clear HM
  obtain ⟨k1d, k3d, ow13, hgg⟩ := (show Kb 0 w1 w13 ∧ Kb 0 w3 w13 ∧ OwnR w13 (.slice pw N qw) gw N (fun i => .int .u8 (A i)) ∧ (N ≠ 0 → gw < gg ∧ gg < w13.heap.size ∧ w3.heap.size ≤ gg) from HK13)
  have z14 := kq14.size
  have hz3 := k3d.size
  have k3e : Kb 0 w3 w14 := ⟨kq14.os.trans k3d.os, kq14.output.trans k3d.output, Nat.le_trans k3d.size z14, fun q _ hq => (kq14.block q (by omega) (fun z => by have := hgg (by omega); omega)).trans (k3d.block q (Nat.zero_le _) hq)⟩
  have ow14 : OwnR w14 (.slice pw N qw) gw N (fun i => .int .u8 (A i)) := ow13.kb (fun q => by have := hgg q; exact kq14.block gw (by omega) (fun z => by omega))
  have HQ := held_byts w14 1 om14.row (by omega) (by omega) (by omega)
  rw [← (show KG = _ from HKG)] at HQ
  have HK14 : Hid (Kb 0 w3 w14 ∧ OwnR w14 (.slice pw N qw) gw N (fun i => .int .u8 (A i)) ∧ OwnR w14 (.slice pg N qg) gg N (fun i => .int .u8 ((1 + (i : Int)) % 256)) ∧ (N ≠ 0 → gw < gg ∧ gg < w14.heap.size)) := (⟨k3e, ow14, om14, fun q => by have := hgg q; omega⟩ : _ ∧ _)
  clear k1d k3d ow13 hgg z14 hz3 k3e ow14 kq14 om14 HK13
  go_wp2_with fail
  refine HQ.mono ?_
  rintro e w15 ⟨rfl, hd15⟩
  clear HQ
  have k15 : Kb 0 w14 w15 := kb_drewN hd15
  obtain ⟨k3e, ow14, om14, hgg⟩ := (show Kb 0 w3 w14 ∧ OwnR w14 (.slice pw N qw) gw N (fun i => .int .u8 (A i)) ∧ OwnR w14 (.slice pg N qg) gg N (fun i => .int .u8 ((1 + (i : Int)) % 256)) ∧ (N ≠ 0 → gw < gg ∧ gg < w14.heap.size) from HK14)
  have k13 := (show Kb 0 w1 w3 from HK13b)
  have k115 := (k13.trans k3e).trans k15
  obtain ⟨c0, c1, c2, c3, c4⟩ := (show ∀ W, Kb 0 w1 W → _ from HBK) w15 k115
  have HT3 := (show ∀ W, Kb 0 w1 W → Calls Try.prog 11 #[.agg #[.int .i64 a.k, .int .i64 a.m, .string a.x, .int .i64 a.r, .slice pa n ca]] W fun e w' => ∃ v', e = .returned (.agg #[.int .i64 a.k, .int .i64 a.m, .string a.x, .int .i64 a.r, v']) ∧ RowTX W.heap.size w' v' n F ∧ Kb 0 W w' from HTO) w15 k115
  have hne : (KG != KG) = false := by simp
  have HK15 : Hid (Kb 0 w14 w15 ∧ Kb 0 w1 w15) := (⟨k15, k115⟩ : _ ∧ _)
  clear k3e ow14 om14 hgg k13 k115 k15 hd15
  go_wp2_with fail
  refine HT3.mono ?_
  rintro e w16 ⟨v3, rfl, r3, k16⟩
  clear HT3 c0 c1 c2 c3 c4
  have HI16 := (show ∀ W v, RowT 0 W v n F → Bg n F a → Calls Try.prog 25 #[.agg #[.int .i64 a.k, .int .i64 a.m, .string a.x, .int .i64 a.r, v]] W fun e w' => ∃ v' g, e = .returned v' ∧ An W w' v' N A g ∧ Kb 0 W w' from HIM) w16 _ (r3.1.mono (Nat.zero_le _)) (show Bg n F a ∧ _ from HBD).1
  obtain ⟨p3, q3, rfl, -⟩ := id r3.1
  have HK16 : Hid (Kb 0 w14 w16 ∧ Kb 0 w1 w16) := (⟨(show Kb 0 w14 w15 ∧ Kb 0 w1 w15 from HK15).1.trans k16, (show Kb 0 w14 w15 ∧ Kb 0 w1 w15 from HK15).2.trans k16⟩ : _ ∧ _)
  clear r3 k16 HK15
  go_wp2_with fail
  refine HI16.mono ?_
  rintro e w17 ⟨vh, gh, rfl, ah, k17⟩
  clear HI16 HIM
  obtain ⟨ph, qh, rfl, -⟩ := ah.1.sl
  obtain ⟨k1416, k116⟩ := (show Kb 0 w14 w16 ∧ Kb 0 w1 w16 from HK16)
  obtain ⟨k3e, ow14, om14, hgg⟩ := (show Kb 0 w3 w14 ∧ OwnR w14 (.slice pw N qw) gw N (fun i => .int .u8 (A i)) ∧ OwnR w14 (.slice pg N qg) gg N (fun i => .int .u8 ((1 + (i : Int)) % 256)) ∧ (N ≠ 0 → gw < gg ∧ gg < w14.heap.size) from HK14)
  have k1417 := k1416.trans k17
  have ow17 := ow14.kb (W' := w17) (fun q => k1417.block gw (Nat.zero_le _) (by have := hgg q; omega))
  have om17 := om14.kb (W' := w17) (fun q => k1417.block gg (Nat.zero_le _) (by have := hgg q; omega))
  have HE17 := (show ∀ W v v', RowV W v N (fun i => .int .u8 (A i)) → RowV W v' N (fun i => .int .u8 (A i)) → _ from HEB) w17 _ _ ah.1.row ow17.row
  have HK17 : Hid (Kb 0 w1 w17 ∧ OwnR w17 (.slice pg N qg) gg N (fun i => .int .u8 ((1 + (i : Int)) % 256)) ∧ (N ≠ 0 → gg < w17.heap.size)) := (⟨k116.trans k17, om17, fun q => by have := hgg q; have := k1417.size; omega⟩ : _ ∧ _)
  clear k1416 k116 k3e ow14 om14 hgg k1417 ow17 om17 ah k17 HK16
  go_wp2_with fail
  refine HE17.mono ?_
  rintro e w18 ⟨rfl, k18⟩
  clear HE17 HEB
  obtain ⟨k117, om17, hgg⟩ := (show Kb 0 w1 w17 ∧ OwnR w17 (.slice pg N qg) gg N (fun i => .int .u8 ((1 + (i : Int)) % 256)) ∧ (N ≠ 0 → gg < w17.heap.size) from HK17)
  have om18 := om17.kb (W' := w18) (fun q => k18.block gg (Nat.zero_le _) (hgg q))
  have HQ := held_byts w18 1 om18.row (by omega) (by omega) (by omega)
  rw [← (show KG = _ from HKG)] at HQ
  have HK18 : Hid (Kb 0 w w18) := (show Bg n F a ∧ _ ∧ Kb 0 w w1 ∧ _ from HBD).2.2.1.trans (k117.trans k18)
  clear k117 om17 hgg k18 om18 HK17 HK14
  go_wp2_with fail
  refine HQ.mono ?_
  rintro e w19 ⟨rfl, hd19⟩
  have HK19 : Hid (Kb 0 w w19) := (show Kb 0 w w18 from HK18).trans (kb_drewN hd19)
  clear HQ HK18 hd19
  go_wp2_with fail
  go_ret
  exact ⟨rfl, HK19⟩
end Go.Proofs.Ytdgainfmidoemaa.Fo
