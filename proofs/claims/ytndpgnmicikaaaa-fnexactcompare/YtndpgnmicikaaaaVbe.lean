import Derived.Test.YtndpgnmicikaaaaVbc
import Derived.Test.YtndpgnmicikaaaaVbd
import Derived.BigQuiet
import Derived.Deep.QuietTactic
namespace Go.Proofs.Ytndpgnmicikaaaa
open Go.ChangeShapes Go.WideShapes Go.ChangeAt Go.RowKit
set_option linter.unusedVariables false
/-- a world behind w0 with two values in the blocks B and B + 1 -/
structure Good (w0 : World) (B : Nat) (a b : Vv) (w : World) : Prop where
  gr : Grown w0 w
  a : Vc w B a
  b : Vc w (B + 1) b
theorem Good.grown {w0 : World} {B : Nat} {a b : Vv} {w w' : World} (h : Good w0 B a b w) (g : Grown w w') : Good w0 B a b w' := ⟨Grown.trans h.gr g, h.a.grown g, h.b.grown g⟩
structure GW (w0 : World) (B : Nat) (a b : Vv) where
  w : World
  g : Good w0 B a b w
theorem wp_region_good {w0 : World} {B : Nat} {a b : Vv} {P : Program} {id : Nat} {Q : Exit → Act → World → Prop} {A : Act} {w : World} {l : List Oper} (hG : Good w0 B a b w) (hm : P.follows .mixedOrders = true) (hB : Region.lexB .any l.toArray = true)
    (h : wpQuiet P l.toArray (fun w' => ∃ p : GW w0 B a b, w' = p.w) (fun a' => ∀ w', (∃ p : GW w0 B a b, w' = p.w) → Q .normal a' w') l A) : (Code.region id l.toArray true).wp P Q A w :=
  wp_region_quiet (C := fun w' => ∃ p : GW w0 B a b, w' = p.w) hm hB ⟨⟨_, hG.grown (Grown.drew (Grown.refl _))⟩, rfl⟩ (by simpa using h)
theorem comp_both (a b : Vv) (ba : Vb a) (bb : Vb b) (hxa : (a.x.size : Int) ≤ 1048576) (hxb : (b.x.size : Int) ≤ 1048576) : ∃ R : Int, (∀ w, Calls Try.prog 16 #[vv a, vv b] w fun e w' => e = .returned (.int .i64 R) ∧ Grown w w') ∧ (∀ w, Calls Try.prog 17 #[vv a, vv b] w fun e w' => e = .returned (.int .i64 R) ∧ Grown w w') := by
  by_cases ha : vok a
  case neg => exact ⟨_, fun w => sp_cp_a a b ha hxa hxb w, fun w => im_cp_a a b ha hxa hxb w⟩
  by_cases hb : vok b
  case neg => exact ⟨_, fun w => sp_cp_b a b ha hb hxa hxb w, fun w => im_cp_b a b ha hb hxa hxb w⟩
  by_cases na : nmb a
  · by_cases nb : nmb b
    · obtain ⟨z, h1, h2⟩ := num_both a b ha hb hxa hxb ba bb na nb
      exact ⟨z, h1, fun w => im_cp_z a b ha hb hxa hxb na nb z h2 w⟩
    · exact ⟨_, fun w => sp_cp_t a b ha hb hxa hxb na nb w, fun w => im_cp_t a b ha hb hxa hxb na nb w⟩
  by_cases ka : a.k = 4
  · by_cases kb : b.k = 4
    · exact ⟨_, fun w => sp_cp_s a b ha hb hxa hxb ka kb w, fun w => im_cp_s a b ha hb hxa hxb ka kb w⟩
    · exact ⟨_, fun w => sp_cp_n4 a b ha hb hxa hxb na ka kb w, fun w => im_cp_n4 a b ha hb hxa hxb na ka kb w⟩
  exact ⟨_, fun w => sp_cp_n a b ha hb hxa hxb na ka w, fun w => im_cp_n a b ha hb hxa hxb na ka w⟩
set_option maxRecDepth 100000 in
set_option maxHeartbeats 4000000 in
theorem law_compare (a b : Vv) (ba : Vb a) (bb : Vb b) (w : World) : Calls Try.prog 6 #[vv a, vv b] w fun e w' => e = .returned (.bool true) ∧ Grown w w' := by
  have HS := fun w => sz_val a 1048576 (by omega) ba.x w
  have L0 : ∀ q0 q1 : Int, q1 ≤ q0 → ¬ q0 - q1 < 0 := fun q0 q1 h => by omega
  by_cases hs : (a.x.size : Int) ≤ 1048576
  case neg =>
    rw [if_neg hs] at HS
    obtain ⟨k, m, g, x, r⟩ := a
    obtain ⟨l, n, h, y, s⟩ := b
    unfold vv at HS ⊢
    dsimp only at HS hs ⊢
    clear ba bb
    go_enter Try.func6, Try.ntmps6
    go_wp2_with fail
    refine (HS _).mono ?_
    rintro e w1 ⟨rfl, g1⟩
    have G1 : Hid (Grown w w1) := Grown.trans (by go_grown) g1
    clear g1 HS
    go_wp2_with fail
    go_ret
    exact ⟨rfl, G1⟩
  rw [if_pos hs] at HS
  have HS2 := fun w => sz_val b (1048576 - (a.x.size : Int)) (by omega) bb.x w
  have hsa : ¬ 1048576 - (a.x.size : Int) < 0 := by omega
  by_cases ht : (b.x.size : Int) ≤ 1048576 - (a.x.size : Int)
  case neg =>
    rw [if_neg ht] at HS2
    obtain ⟨k, m, g, x, r⟩ := a
    obtain ⟨l, n, h, y, s⟩ := b
    unfold vv at HS HS2 ⊢
    dsimp only at HS HS2 hs hsa ht ⊢
    clear ba bb hs ht
    go_enter Try.func6, Try.ntmps6
    go_wp2_with fail
    refine (HS _).mono ?_
    rintro e w1 ⟨rfl, g1⟩
    have G1 : Hid (Grown w w1) := Grown.trans (by go_grown) g1
    have B1 : Vc w1 (w.heap.size + 1) ⟨l, n, h, y, s⟩ := by
      have q := Vc.new (w.alloc (.cells #[.int .i64 k, .int .i64 m, .float .f64 g, .string x, .int .i64 r] 24)) l n h y s 24
      rw [World.size_alloc] at q
      exact q.grown g1
    obtain ⟨d0, d1, d2, d3, d4⟩ := B1
    clear g1 HS
    go_wp2_with fail
    refine (HS2 _).mono ?_
    rintro e w2 ⟨rfl, g2⟩
    have G2 : Hid (Grown w w2) := Grown.trans G1 g2
    clear g2 HS2 G1 d0 d1 d2 d3 d4
    go_wp2_with fail
    go_ret
    exact ⟨rfl, G2⟩
  rw [if_pos ht] at HS2
  obtain ⟨R, HO, HI⟩ := comp_both a b ba bb hs (by omega)
  have hrr : (R != R) = false := by simp
  have HTA := fun w => to_val a w
  have HTB := fun w => to_val b w
  have hsb : ¬ 1048576 - (a.x.size : Int) - (b.x.size : Int) < 0 := by omega
  obtain ⟨k, m, g, x, r⟩ := a
  obtain ⟨l, n, h, y, s⟩ := b
  unfold vv at HS HS2 HO HI HTA HTB ⊢
  dsimp only at HS HS2 HO HI HTA HTB hs ht hsa hsb ⊢
  clear ba bb hs ht L0
  have HS' : Hid (∀ w, _) := HS
  have HS2' : Hid (∀ w, _) := HS2
  have HO' : Hid (∀ w, _) := HO
  have HI' : Hid (∀ w, _) := HI
  have HTA' : Hid (∀ w, _) := HTA
  have HTB' : Hid (∀ w, _) := HTB
  clear HS HS2 HO HI HTA HTB
  go_enter Try.func6, Try.ntmps6
  go_wp2_with fail
  refine (HS' _).mono ?_
  rintro e w1 ⟨rfl, g1⟩
  have G1 : Hid (Grown w w1) := Grown.trans (by go_grown) g1
  have A1 : Hid (Vc w1 w.heap.size ⟨k, m, g, x, r⟩) := Vc.grown ((Vc.new w k m g x r 24).grown (Grown.alloc (Grown.refl _) _ _)) g1
  have B1 : Hid (Vc w1 (w.heap.size + 1) ⟨l, n, h, y, s⟩) := by
    have q := Vc.new (w.alloc (.cells #[.int .i64 k, .int .i64 m, .float .f64 g, .string x, .int .i64 r] 24)) l n h y s 24
    rw [World.size_alloc] at q
    exact q.grown g1
  obtain ⟨d0, d1, d2, d3, d4⟩ := (show Vc w1 (w.heap.size + 1) ⟨l, n, h, y, s⟩ from B1)
  clear g1 HS'
  go_wp2_with fail
  refine (HS2' _).mono ?_
  rintro e w2 ⟨rfl, g2⟩
  have G2 : Hid (Grown w w2) := Grown.trans G1 g2
  have A2 : Vc w2 w.heap.size ⟨k, m, g, x, r⟩ := Vc.grown A1 g2
  have B2 : Vc w2 (w.heap.size + 1) ⟨l, n, h, y, s⟩ := Vc.grown B1 g2
  have hG : Good w w.heap.size ⟨k, m, g, x, r⟩ ⟨l, n, h, y, s⟩ w2 := ⟨G2, A2, B2⟩
  clear A1 B1 A2 B2 g2 HS2' G1 G2 d0 d1 d2 d3 d4
  obtain ⟨B, hB⟩ : ∃ B, B = w.heap.size := ⟨_, rfl⟩
  rw [← hB] at hG ⊢
  have k0 : ∀ p : GW w B ⟨k, m, g, x, r⟩ ⟨l, n, h, y, s⟩, p.w.cell? ⟨B, 0, none⟩ = some (.int .i64 k) := fun p => p.g.a.c0
  have k1 : ∀ p : GW w B ⟨k, m, g, x, r⟩ ⟨l, n, h, y, s⟩, p.w.cell? ⟨B, 1, none⟩ = some (.int .i64 m) := fun p => p.g.a.c1
  have k2 : ∀ p : GW w B ⟨k, m, g, x, r⟩ ⟨l, n, h, y, s⟩, p.w.cell? ⟨B, 2, none⟩ = some (.float .f64 g) := fun p => p.g.a.c2
  have k3 : ∀ p : GW w B ⟨k, m, g, x, r⟩ ⟨l, n, h, y, s⟩, p.w.cell? ⟨B, 3, none⟩ = some (.string x) := fun p => p.g.a.c3
  have k4 : ∀ p : GW w B ⟨k, m, g, x, r⟩ ⟨l, n, h, y, s⟩, p.w.cell? ⟨B, 4, none⟩ = some (.int .i64 r) := fun p => p.g.a.c4
  have l0 : ∀ p : GW w B ⟨k, m, g, x, r⟩ ⟨l, n, h, y, s⟩, p.w.cell? ⟨B + 1, 0, none⟩ = some (.int .i64 l) := fun p => p.g.b.c0
  have l1 : ∀ p : GW w B ⟨k, m, g, x, r⟩ ⟨l, n, h, y, s⟩, p.w.cell? ⟨B + 1, 1, none⟩ = some (.int .i64 n) := fun p => p.g.b.c1
  have l2 : ∀ p : GW w B ⟨k, m, g, x, r⟩ ⟨l, n, h, y, s⟩, p.w.cell? ⟨B + 1, 2, none⟩ = some (.float .f64 h) := fun p => p.g.b.c2
  have l3 : ∀ p : GW w B ⟨k, m, g, x, r⟩ ⟨l, n, h, y, s⟩, p.w.cell? ⟨B + 1, 3, none⟩ = some (.string y) := fun p => p.g.b.c3
  have l4 : ∀ p : GW w B ⟨k, m, g, x, r⟩ ⟨l, n, h, y, s⟩, p.w.cell? ⟨B + 1, 4, none⟩ = some (.int .i64 s) := fun p => p.g.b.c4
  have C1 : ∀ p : GW w B ⟨k, m, g, x, r⟩ ⟨l, n, h, y, s⟩, Calls Try.prog 10 #[.agg #[.int .i64 k, .int .i64 m, .float .f64 g, .string x, .int .i64 r]] p.w fun e w' => e = .returned (.agg #[.int .i64 k, .int .i64 m, .float .f64 g, .string x, .int .i64 r]) ∧ ∃ q : GW w B ⟨k, m, g, x, r⟩ ⟨l, n, h, y, s⟩, w' = q.w := fun p => (HTA' p.w).mono fun _ w' ⟨e, q⟩ => ⟨e, ⟨w', p.g.grown q⟩, rfl⟩
  have C2 : ∀ p : GW w B ⟨k, m, g, x, r⟩ ⟨l, n, h, y, s⟩, Calls Try.prog 10 #[.agg #[.int .i64 l, .int .i64 n, .float .f64 h, .string y, .int .i64 s]] p.w fun e w' => e = .returned (.agg #[.int .i64 l, .int .i64 n, .float .f64 h, .string y, .int .i64 s]) ∧ ∃ q : GW w B ⟨k, m, g, x, r⟩ ⟨l, n, h, y, s⟩, w' = q.w := fun p => (HTB' p.w).mono fun _ w' ⟨e, q⟩ => ⟨e, ⟨w', p.g.grown q⟩, rfl⟩
  have C3 : ∀ p : GW w B ⟨k, m, g, x, r⟩ ⟨l, n, h, y, s⟩, Calls Try.prog 16 #[.agg #[.int .i64 k, .int .i64 m, .float .f64 g, .string x, .int .i64 r], .agg #[.int .i64 l, .int .i64 n, .float .f64 h, .string y, .int .i64 s]] p.w fun e w' => e = .returned (.int .i64 R) ∧ ∃ q : GW w B ⟨k, m, g, x, r⟩ ⟨l, n, h, y, s⟩, w' = q.w := fun p => (HO' p.w).mono fun _ w' ⟨e, q⟩ => ⟨e, ⟨w', p.g.grown q⟩, rfl⟩
  have C4 : ∀ p : GW w B ⟨k, m, g, x, r⟩ ⟨l, n, h, y, s⟩, Calls Try.prog 17 #[.agg #[.int .i64 k, .int .i64 m, .float .f64 g, .string x, .int .i64 r], .agg #[.int .i64 l, .int .i64 n, .float .f64 h, .string y, .int .i64 s]] p.w fun e w' => e = .returned (.int .i64 R) ∧ ∃ q : GW w B ⟨k, m, g, x, r⟩ ⟨l, n, h, y, s⟩, w' = q.w := fun p => (HI' p.w).mono fun _ w' ⟨e, q⟩ => ⟨e, ⟨w', p.g.grown q⟩, rfl⟩
  clear HTA' HTB' HO' HI' hB
  have hne : Nonempty (GW w B ⟨k, m, g, x, r⟩ ⟨l, n, h, y, s⟩) := ⟨⟨w2, hG⟩⟩
  have HG : Hid (Good w B ⟨k, m, g, x, r⟩ ⟨l, n, h, y, s⟩ w2) := hG
  clear hG
  go_wp2_with fail
  refine wp_region_good HG (by kernel_rfl) (by kernel_rfl) ?_
  go_big_quiet_step ((fail))
  go_big_quiet_step ((go_at_call 10; exact C1 _))
  go_big_quiet_step ((fail))
  go_big_quiet_step ((go_at_call 10; exact C2 _))
  go_big_quiet_step ((go_at_call 16; exact C3 _))
  go_big_quiet_step ((fail))
  refine wpQuiet_nil ?_
  intro w3 hw'
  have g3 : Good w B ⟨k, m, g, x, r⟩ ⟨l, n, h, y, s⟩ w3 := by
    obtain ⟨q, hq⟩ := hw'
    rw [hq]
    exact q.g
  clear hw'
  have HG3 : Hid (Good w B ⟨k, m, g, x, r⟩ ⟨l, n, h, y, s⟩ w3) := g3
  clear g3 HG C3
  go_wp2_with fail
  refine wp_region_good HG3 (by kernel_rfl) (by kernel_rfl) ?_
  go_big_quiet_step ((fail))
  go_big_quiet_step ((go_at_call 10; exact C1 _))
  go_big_quiet_step ((fail))
  go_big_quiet_step ((go_at_call 10; exact C2 _))
  go_big_quiet_step ((go_at_call 17; exact C4 _))
  go_big_quiet_step ((fail))
  refine wpQuiet_nil ?_
  intro w4 hw'
  have g4 : Good w B ⟨k, m, g, x, r⟩ ⟨l, n, h, y, s⟩ w4 := by
    obtain ⟨q, hq⟩ := hw'
    rw [hq]
    exact q.g
  clear hw'
  have GF : Hid (Grown w w4) := g4.gr
  clear g4 HG3 C1 C2 C4 k0 k1 k2 k3 k4 l0 l1 l2 l3 l4 hne
  go_wp2_with fail
  go_ret
  exact ⟨rfl, GF⟩
end Go.Proofs.Ytndpgnmicikaaaa
