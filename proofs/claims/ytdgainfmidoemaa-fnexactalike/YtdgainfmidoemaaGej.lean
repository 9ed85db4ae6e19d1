import Derived.Test.YtdgainfmidoemaaGei
import Derived.Deep.RegionHeld3
import Derived.Deep.RegionWith
namespace Go.Proofs.Ytdgainfmidoemaa.Fo
open Go.ChangeShapes Go.WideShapes Go.ChangeAt Go.RowKit
set_option linter.unusedVariables false
set_option maxRecDepth 100000
/-- two graphs are alike -/
def Alk (n : Nat) (F : Nat → Td) (a : Gv) (n' : Nat) (F' : Nat → Td) (b : Gv) : Prop := Gok n F a ∧ Gok n' F' b ∧ Sm (rnm (cO n F a) a) (rnm (cO n' F' b) b) (cO n F a).length (cO n' F' b).length (cF n F a) (cF n' F' b)
set_option maxHeartbeats 16000000 in
theorem sp_alike {a b : Gv} {va vb : Value} {n n' : Nat} {F F' : Nat → Td} (w : World) (ha : RowT 0 w va n F) (hv : RowT 0 w vb n' F') (hb : Bg n F a) (hb' : Bg n' F' b) :
    Calls Try.prog 22 #[grv a va, grv b vb] w fun e w' => e = .returned (.bool (dc (Alk n F a n' F' b))) ∧ Kb 0 w w' := by
  obtain ⟨pa, ca, rfl, -⟩ := id ha
  obtain ⟨pb, cb, rfl, -⟩ := id hv
  obtain ⟨w2, hw2⟩ : ∃ w2, w2 = (w.alloc (.cells #[.int .i64 a.k, .int .i64 a.m, .string a.x, .int .i64 a.r, (.slice pa n ca)] 32)).alloc (.cells #[.int .i64 b.k, .int .i64 b.m, .string b.x, .int .i64 b.r, (.slice pb n' cb)] 32) := ⟨_, rfl⟩
  have e1 : (w.alloc (.cells #[.int .i64 a.k, .int .i64 a.m, .string a.x, .int .i64 a.r, (.slice pa n ca)] 32)).heap.size = w.heap.size + 1 := World.size_alloc _ _
  have k2 : Kb 0 w w2 := by rw [hw2]; exact kb_alloc2 _ _ _ _
  have b0 : w2.heap[w.heap.size]? = some (.cells #[.int .i64 a.k, .int .i64 a.m, .string a.x, .int .i64 a.r, (.slice pa n ca)] 32 (0, 0)) := by
    rw [hw2, (kb_alloc 0 _ _).block _ (Nat.zero_le _) (by omega)]
    exact alloc_new _ _ _
  have b1 : w2.heap[w.heap.size + 1]? = some (.cells #[.int .i64 b.k, .int .i64 b.m, .string b.x, .int .i64 b.r, (.slice pb n' cb)] 32 (0, 0)) := by
    rw [hw2, ← e1]
    exact alloc_new _ _ _
  have HCX : Hid (∀ W, Kb 0 w2 W → (W.cell? ⟨w.heap.size, 0, none⟩ = some (.int .i64 a.k) ∧ W.cell? ⟨w.heap.size, 1, none⟩ = some (.int .i64 a.m) ∧ W.cell? ⟨w.heap.size, 2, none⟩ = some (.string a.x) ∧ W.cell? ⟨w.heap.size, 3, none⟩ = some (.int .i64 a.r) ∧ W.cell? ⟨w.heap.size, 4, none⟩ = some ((.slice pa n ca))) ∧ W.cell? ⟨w.heap.size + 1, 0, none⟩ = some (.int .i64 b.k) ∧ W.cell? ⟨w.heap.size + 1, 1, none⟩ = some (.int .i64 b.m) ∧ W.cell? ⟨w.heap.size + 1, 2, none⟩ = some (.string b.x) ∧ W.cell? ⟨w.heap.size + 1, 3, none⟩ = some (.int .i64 b.r) ∧ W.cell? ⟨w.heap.size + 1, 4, none⟩ = some ((.slice pb n' cb))) := (fun W k => ⟨⟨k.cell (cell_of b0 rfl), k.cell (cell_of b0 rfl), k.cell (cell_of b0 rfl), k.cell (cell_of b0 rfl), k.cell (cell_of b0 rfl)⟩, k.cell (cell_of b1 rfl), k.cell (cell_of b1 rfl), k.cell (cell_of b1 rfl), k.cell (cell_of b1 rfl), k.cell (cell_of b1 rfl)⟩ : ∀ W, _)
  have HG1 : Hid (∀ W, Kb 0 w2 W → Calls Try.prog 10 #[.agg #[.int .i64 a.k, .int .i64 a.m, .string a.x, .int .i64 a.r, (.slice pa n ca)]] W fun e w' => e = .returned (.bool (dc (Gok n F a))) ∧ Kb 0 W w') := (fun W k => sp_gok W ((ha.keep k2).keep k) hb : ∀ W, _)
  have HG2 : Hid (∀ W, Kb 0 w2 W → Calls Try.prog 10 #[.agg #[.int .i64 b.k, .int .i64 b.m, .string b.x, .int .i64 b.r, (.slice pb n' cb)]] W fun e w' => e = .returned (.bool (dc (Gok n' F' b))) ∧ Kb 0 W w') := (fun W k => sp_gok W ((hv.keep k2).keep k) hb' : ∀ W, _)
  have HKK : Hid (Kb 0 w w2) := k2
  have s0 := (show ∀ W, Kb 0 w2 W → _ from HCX) w2 (Kb.refl _ _)
  have HS0 : Hid ((w2.cell? ⟨w.heap.size, 0, none⟩ = some (.int .i64 a.k) ∧ w2.cell? ⟨w.heap.size, 1, none⟩ = some (.int .i64 a.m) ∧ w2.cell? ⟨w.heap.size, 2, none⟩ = some (.string a.x) ∧ w2.cell? ⟨w.heap.size, 3, none⟩ = some (.int .i64 a.r) ∧ w2.cell? ⟨w.heap.size, 4, none⟩ = some ((.slice pa n ca))) ∧ w2.cell? ⟨w.heap.size + 1, 0, none⟩ = some (.int .i64 b.k) ∧ w2.cell? ⟨w.heap.size + 1, 1, none⟩ = some (.int .i64 b.m) ∧ w2.cell? ⟨w.heap.size + 1, 2, none⟩ = some (.string b.x) ∧ w2.cell? ⟨w.heap.size + 1, 3, none⟩ = some (.int .i64 b.r) ∧ w2.cell? ⟨w.heap.size + 1, 4, none⟩ = some ((.slice pb n' cb))) := s0
  obtain ⟨⟨a0, a1, a2, a3, a4⟩, d0, d1, d2, d3, d4⟩ := s0
  have HW2 : Hid (w2 = _) := hw2
  by_cases h : Gok n F a
  case neg =>
    rw [dc_f (show ¬ Alk n F a n' F' b from fun q => h q.1)]
    rw [dc_f h] at HG1
    clear hw2 e1 k2 b0 b1 ha hv hb hb' h HG2
    unfold grv
    go_enter Try.func22, Try.ntmps22
    go_upto_region 1 with fail
    rw [← (show w2 = _ from HW2)]
    clear HW2
    first | (go_region_with (go_at_call_of 10 (Value.string a.x); refine ((show ∀ W, Kb 0 w2 W → _ from HG1) _ (by exact Kb.drewN (Kb.refl _ _) 1)).mono ?_; rintro e x1 ⟨rfl, k1⟩; have K1 : Kb 0 w2 x1 := ⟨k1.os, k1.output, k1.size, k1.block⟩; have s1 := (show ∀ W, Kb 0 w2 W → _ from HCX) x1 K1)) | fail
    all_goals
     have HK : Hid (Kb 0 w x1) := (show Kb 0 w w2 from HKK).trans K1
     clear a0 a1 a2 a3 a4 d0 d1 d2 d3 d4 HCX HS0 HG1 k1 K1 s1
     go_wp2_with fail
     go_ret
     exact ⟨rfl, HK⟩
  rw [dc_t h] at HG1
  by_cases h2 : Gok n' F' b
  case neg =>
    rw [dc_f (show ¬ Alk n F a n' F' b from fun q => h2 q.2.1)]
    rw [dc_f h2] at HG2
    clear hw2 e1 k2 b0 b1 ha hv hb hb' h h2
    unfold grv
    go_enter Try.func22, Try.ntmps22
    go_upto_region 1 with fail
    rw [← (show w2 = _ from HW2)]
    clear HW2
    first | (go_region_with (first | (go_at_call_of 10 (Value.string a.x); refine ((show ∀ W, Kb 0 w2 W → _ from HG1) _ (by exact Kb.drewN (Kb.refl _ _) 1)).mono ?_; rintro e x1 ⟨rfl, k1⟩; have K1 : Kb 0 w2 x1 := ⟨k1.os, k1.output, k1.size, k1.block⟩; have s1 := (show ∀ W, Kb 0 w2 W → _ from HCX) x1 K1; obtain ⟨⟨g0, g1, g2, g3, g4⟩, f0, f1, f2, f3, f4⟩ := s1) | (go_at_call_of 10 (Value.string b.x); refine ((show ∀ W, Kb 0 w2 W → _ from HG2) _ K1).mono ?_; rintro e x2 ⟨rfl, k2⟩; have K2 : Kb 0 w2 x2 := K1.trans k2; have s2 := (show ∀ W, Kb 0 w2 W → _ from HCX) x2 K2))) | fail
    all_goals
     have HK : Hid (Kb 0 w x2) := (show Kb 0 w w2 from HKK).trans K2
     clear a0 a1 a2 a3 a4 d0 d1 d2 d3 d4 HCX HS0 HG1 HG2 k1 K1 k2 K2 s2
     go_wp2_with fail
     go_ret
     exact ⟨rfl, HK⟩
  rw [dc_t h2] at HG2
  have hl := gok_lk h
  have hl2 := gok_lk h2
  have hcb := bg_can hb
  have hcb2 := bg_can hb'
  obtain ⟨A, hA⟩ : ∃ A, A = rnm (cO n F a) a := ⟨_, rfl⟩
  obtain ⟨B, hB⟩ : ∃ B, B = rnm (cO n' F' b) b := ⟨_, rfl⟩
  obtain ⟨m, hm⟩ : ∃ m, m = (cO n F a).length := ⟨_, rfl⟩
  obtain ⟨m', hm'⟩ : ∃ m', m' = (cO n' F' b).length := ⟨_, rfl⟩
  obtain ⟨FA, hFA⟩ : ∃ FA, FA = cF n F a := ⟨_, rfl⟩
  obtain ⟨FB, hFB⟩ : ∃ FB, FB = cF n' F' b := ⟨_, rfl⟩
  have eA : cA n F a = A := by unfold cA; rw [if_pos (dc_t h), hA]
  have eB : cA n' F' b = B := by unfold cA; rw [if_pos (dc_t h2), hB]
  have em : cN n F a = m := by unfold cN; rw [if_pos (dc_t h), hm]
  have em' : cN n' F' b = m' := by unfold cN; rw [if_pos (dc_t h2), hm']
  rw [eA, em, ← hFA] at hcb
  rw [eB, em', ← hFB] at hcb2
  obtain ⟨R, hR⟩ : ∃ R, R = dc (Sm A B m m' FA FB) := ⟨_, rfl⟩
  have eR : dc (Alk n F a n' F' b) = R := by
    rw [hR]
    by_cases hs : Sm A B m m' FA FB
    · rw [dc_t hs, dc_t]
      unfold Alk
      rw [← hA, ← hB, ← hm, ← hm', ← hFA, ← hFB]
      exact ⟨h, h2, hs⟩
    · rw [dc_f hs, dc_f]
      unfold Alk
      rw [← hA, ← hB, ← hm, ← hm', ← hFA, ← hFB]
      exact fun q => hs q.2.2
  rw [eR]
  have HC1 : Hid (∀ W, Kb 0 w2 W → Calls Try.prog 42 #[.agg #[.int .i64 a.k, .int .i64 a.m, .string a.x, .int .i64 a.r, (.slice pa n ca)]] W fun e w' => ∃ v, e = .returned (.agg #[.int .i64 A.k, .int .i64 A.m, .string A.x, .int .i64 A.r, v]) ∧ RowT W.heap.size w' v m FA ∧ Kb 0 W w') := (fun W k => by rw [hA, hm, hFA]; exact sp_canon W ((ha.keep k2).keep k) hb hl : ∀ W, _)
  have HC2 : Hid (∀ W, Kb 0 w2 W → Calls Try.prog 42 #[.agg #[.int .i64 b.k, .int .i64 b.m, .string b.x, .int .i64 b.r, (.slice pb n' cb)]] W fun e w' => ∃ v, e = .returned (.agg #[.int .i64 B.k, .int .i64 B.m, .string B.x, .int .i64 B.r, v]) ∧ RowT W.heap.size w' v m' FB ∧ Kb 0 W w') := (fun W k => by rw [hB, hm', hFB]; exact sp_canon W ((hv.keep k2).keep k) hb' hl2 : ∀ W, _)
  have HCM : Hid (∀ W v v', RowT 0 W v m FA → RowT 0 W v' m' FB → Calls Try.prog 47 #[.agg #[.int .i64 A.k, .int .i64 A.m, .string A.x, .int .i64 A.r, v], .agg #[.int .i64 B.k, .int .i64 B.m, .string B.x, .int .i64 B.r, v']] W fun e w' => e = .returned (.bool R) ∧ Kb 0 W w') := (fun W v v' q q' => by rw [hR]; exact sp_same W q q' hcb hcb2 : ∀ W v v', _)
  clear hw2 e1 k2 b0 b1 ha hv hb hb' h h2 hl hl2 hcb hcb2 hA hB hm hm' hFA hFB eA eB em em' hR eR
  unfold grv
  go_enter Try.func22, Try.ntmps22
  go_upto_region 1 with fail
  rw [← (show w2 = _ from HW2)]
  clear HW2
  go_region_held3 (fun W' => (W'.cell? ⟨w.heap.size, 0, none⟩ = some (.int .i64 a.k) ∧ W'.cell? ⟨w.heap.size, 1, none⟩ = some (.int .i64 a.m) ∧ W'.cell? ⟨w.heap.size, 2, none⟩ = some (.string a.x) ∧ W'.cell? ⟨w.heap.size, 3, none⟩ = some (.int .i64 a.r) ∧ W'.cell? ⟨w.heap.size, 4, none⟩ = some ((.slice pa n ca))) ∧ W'.cell? ⟨w.heap.size + 1, 0, none⟩ = some (.int .i64 b.k) ∧ W'.cell? ⟨w.heap.size + 1, 1, none⟩ = some (.int .i64 b.m) ∧ W'.cell? ⟨w.heap.size + 1, 2, none⟩ = some (.string b.x) ∧ W'.cell? ⟨w.heap.size + 1, 3, none⟩ = some (.int .i64 b.r) ∧ W'.cell? ⟨w.heap.size + 1, 4, none⟩ = some ((.slice pb n' cb))) (first | exact s5 | exact s4 | exact s3 | exact s2 | exact s1 | exact (show (w2.cell? ⟨w.heap.size, 0, none⟩ = some (.int .i64 a.k) ∧ w2.cell? ⟨w.heap.size, 1, none⟩ = some (.int .i64 a.m) ∧ w2.cell? ⟨w.heap.size, 2, none⟩ = some (.string a.x) ∧ w2.cell? ⟨w.heap.size, 3, none⟩ = some (.int .i64 a.r) ∧ w2.cell? ⟨w.heap.size, 4, none⟩ = some ((.slice pa n ca))) ∧ w2.cell? ⟨w.heap.size + 1, 0, none⟩ = some (.int .i64 b.k) ∧ w2.cell? ⟨w.heap.size + 1, 1, none⟩ = some (.int .i64 b.m) ∧ w2.cell? ⟨w.heap.size + 1, 2, none⟩ = some (.string b.x) ∧ w2.cell? ⟨w.heap.size + 1, 3, none⟩ = some (.int .i64 b.r) ∧ w2.cell? ⟨w.heap.size + 1, 4, none⟩ = some ((.slice pb n' cb)) from HS0)) ((first | (go_at_call_of 10 (Value.string a.x); refine ((show ∀ W, Kb 0 w2 W → _ from HG1) _ (by exact Kb.drewN (Kb.refl _ _) 1)).mono ?_; rintro e x1 ⟨rfl, k1⟩; have K1 : Kb 0 w2 x1 := ⟨k1.os, k1.output, k1.size, k1.block⟩; have s1 := (show ∀ W, Kb 0 w2 W → _ from HCX) x1 K1) | (go_at_call_of 10 (Value.string b.x); refine ((show ∀ W, Kb 0 w2 W → _ from HG2) _ K1).mono ?_; rintro e x2 ⟨rfl, k2⟩; have K2 : Kb 0 w2 x2 := K1.trans k2; have s2 := (show ∀ W, Kb 0 w2 W → _ from HCX) x2 K2) | (go_at_call_of 42 (Value.string a.x); refine ((show ∀ W, Kb 0 w2 W → _ from HC1) _ K2).mono ?_; rintro e x3 ⟨v3, rfl, r3, k3⟩; have K3 : Kb 0 w2 x3 := K2.trans k3; have s3 := (show ∀ W, Kb 0 w2 W → _ from HCX) x3 K3) | (go_at_call_of 42 (Value.string b.x); refine ((show ∀ W, Kb 0 w2 W → _ from HC2) _ K3).mono ?_; rintro e x4 ⟨v4, rfl, r4, k4⟩; have K4 : Kb 0 w2 x4 := K3.trans k4; have s4 := (show ∀ W, Kb 0 w2 W → _ from HCX) x4 K4) | (go_at_call 47; refine ((show ∀ W v v', _ from HCM) _ _ _ ((r3.mono (Nat.zero_le _)).keep k4) (r4.mono (Nat.zero_le _))).mono ?_; rintro e x5 ⟨rfl, k5⟩; have K5 : Kb 0 w2 x5 := K4.trans k5; have s5 := (show ∀ W, Kb 0 w2 W → _ from HCX) x5 K5)))
  have HK : Hid (Kb 0 w x5) := (show Kb 0 w w2 from HKK).trans K5
  clear a0 a1 a2 a3 a4 d0 d1 d2 d3 d4 HCX HS0 HG1 HG2 HC1 HC2 HCM k1 K1 s1 k2 K2 s2 r3 k3 K3 s3 r4 k4 K4 s4 k5 K5 s5
  go_wp2_with fail
  go_ret
  exact ⟨rfl, HK⟩
end Go.Proofs.Ytdgainfmidoemaa.Fo
