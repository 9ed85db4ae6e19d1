import Derived.Test.YtladepgpandklaaGreatDoorMVau
import Derived.Test.YtladepgpandklaaGreatDoorMVav
import Derived.Test.YtladepgpandklaaGreatDoorMVavb
namespace Go.Proofs.YtladepgpandklaaGreatDoor
open Go.ChangeShapes Go.WideShapes Go.ChangeAt Go.RowKit
set_option linter.unusedVariables false
set_option maxRecDepth 100000 in
set_option maxHeartbeats 2000000 in
theorem im_ii (a b : Vv) (ka : a.k = 2) (kb : b.k = 2) (w : World) : Calls Tryz.prog 48 #[vv a, vv b] w fun e w' => e = .returned (.int .i64 (cmpi a.m b.m)) ∧ Grown w w' := by
  have na : nmb a := .inl ka
  have nb : nmb b := .inl kb
  have AI := fun w => im_ints a b na nb w
  rw [dc_t ⟨ka, kb⟩] at AI
  have HC := fun w => im_cmp a.m b.m w
  obtain ⟨k, m, g, x, r⟩ := a
  obtain ⟨l, n, h, y, s⟩ := b
  unfold vv at *
  dsimp only at *
  clear na nb
  subst ka kb
  go_enter Tryz.func48, Tryz.ntmps48
  go_wp2_with fail
  refine (AI _).mono ?_
  rintro e w1 ⟨rfl, g1⟩
  have G1 : Hid (Grown w w1) := Grown.trans (by go_grown) g1
  have A1 : Hid (Vc w1 w.heap.size ⟨2, m, g, x, r⟩) := Vc.grown ((Vc.new w 2 m g x r 26).grown (Grown.alloc (Grown.refl _) _ _)) g1
  have B1 : Hid (Vc w1 (w.heap.size + 1) ⟨2, n, h, y, s⟩) := by
    have q := Vc.new (w.alloc (.cells #[.int .i64 2, .int .i64 m, .float .f64 g, .string x, .int .i64 r] 26)) 2 n h y s 26
    rw [World.size_alloc] at q
    exact q.grown g1
  obtain ⟨c0, c1, c2, c3, c4⟩ := (show Vc w1 w.heap.size ⟨2, m, g, x, r⟩ from A1)
  obtain ⟨d0, d1, d2, d3, d4⟩ := (show Vc w1 (w.heap.size + 1) ⟨2, n, h, y, s⟩ from B1)
  clear g1
  go_wp2_with fail
  refine (HC _).mono ?_
  rintro e w9 ⟨rfl, rfl⟩
  go_wp2_with fail
  go_ret
  exact ⟨rfl, G1⟩
set_option maxRecDepth 100000 in
set_option maxHeartbeats 2000000 in
theorem im_if (a b : Vv) (ka : a.k = 2) (kb : b.k = 3) (z : Int) (HZ : ∀ w, Calls Tryz.prog 61 #[.int .i64 a.m, .float .f64 b.g] w fun e w' => e = .returned (.int .i64 z) ∧ Grown w w') (w : World) : Calls Tryz.prog 48 #[vv a, vv b] w fun e w' => e = .returned (.int .i64 z) ∧ Grown w w' := by
  have na : nmb a := .inl ka
  have nb : nmb b := .inr kb
  have AI := fun w => im_ints a b na nb w
  rw [dc_f (by omega)] at AI
  obtain ⟨k, m, g, x, r⟩ := a
  obtain ⟨l, n, h, y, s⟩ := b
  unfold vv at *
  dsimp only at *
  clear na nb
  subst ka kb
  go_enter Tryz.func48, Tryz.ntmps48
  go_wp2_with fail
  refine (AI _).mono ?_
  rintro e w1 ⟨rfl, g1⟩
  have G1 : Hid (Grown w w1) := Grown.trans (by go_grown) g1
  have A1 : Hid (Vc w1 w.heap.size ⟨2, m, g, x, r⟩) := Vc.grown ((Vc.new w 2 m g x r 26).grown (Grown.alloc (Grown.refl _) _ _)) g1
  have B1 : Hid (Vc w1 (w.heap.size + 1) ⟨3, n, h, y, s⟩) := by
    have q := Vc.new (w.alloc (.cells #[.int .i64 2, .int .i64 m, .float .f64 g, .string x, .int .i64 r] 26)) 3 n h y s 26
    rw [World.size_alloc] at q
    exact q.grown g1
  obtain ⟨c0, c1, c2, c3, c4⟩ := (show Vc w1 w.heap.size ⟨2, m, g, x, r⟩ from A1)
  obtain ⟨d0, d1, d2, d3, d4⟩ := (show Vc w1 (w.heap.size + 1) ⟨3, n, h, y, s⟩ from B1)
  clear g1
  go_wp2_with fail
  refine (HZ _).mono ?_
  rintro e w2 ⟨rfl, g2⟩
  have G2 : Hid (Grown w w2) := Grown.trans G1 g2
  have A2 : Hid (Vc w2 w.heap.size ⟨2, m, g, x, r⟩) := Vc.grown A1 g2
  have B2 : Hid (Vc w2 (w.heap.size + 1) ⟨3, n, h, y, s⟩) := Vc.grown B1 g2
  clear G1 A1 B1 c0 c1 c2 c3 c4 d0 d1 d2 d3 d4
  obtain ⟨c0, c1, c2, c3, c4⟩ := (show Vc w2 w.heap.size ⟨2, m, g, x, r⟩ from A2)
  obtain ⟨d0, d1, d2, d3, d4⟩ := (show Vc w2 (w.heap.size + 1) ⟨3, n, h, y, s⟩ from B2)
  clear g2
  go_wp2_with fail
  go_ret
  exact ⟨rfl, G2⟩
set_option maxRecDepth 100000 in
set_option maxHeartbeats 2000000 in
theorem im_fi (a b : Vv) (ka : a.k = 3) (kb : b.k = 2) (z : Int) (HZ : ∀ w, Calls Tryz.prog 61 #[.int .i64 b.m, .float .f64 a.g] w fun e w' => e = .returned (.int .i64 z) ∧ Grown w w') (z2 : Int) (HT : ∀ w, Calls Tryz.prog 62 #[.int .i64 z] w fun e w' => e = .returned (.int .i64 z2) ∧ w' = w) (w : World) : Calls Tryz.prog 48 #[vv a, vv b] w fun e w' => e = .returned (.int .i64 z2) ∧ Grown w w' := by
  have na : nmb a := .inr ka
  have nb : nmb b := .inl kb
  have AI := fun w => im_ints a b na nb w
  rw [dc_f (by omega)] at AI
  obtain ⟨k, m, g, x, r⟩ := a
  obtain ⟨l, n, h, y, s⟩ := b
  unfold vv at *
  dsimp only at *
  clear na nb
  subst ka kb
  go_enter Tryz.func48, Tryz.ntmps48
  go_wp2_with fail
  refine (AI _).mono ?_
  rintro e w1 ⟨rfl, g1⟩
  have G1 : Hid (Grown w w1) := Grown.trans (by go_grown) g1
  have A1 : Hid (Vc w1 w.heap.size ⟨3, m, g, x, r⟩) := Vc.grown ((Vc.new w 3 m g x r 26).grown (Grown.alloc (Grown.refl _) _ _)) g1
  have B1 : Hid (Vc w1 (w.heap.size + 1) ⟨2, n, h, y, s⟩) := by
    have q := Vc.new (w.alloc (.cells #[.int .i64 3, .int .i64 m, .float .f64 g, .string x, .int .i64 r] 26)) 2 n h y s 26
    rw [World.size_alloc] at q
    exact q.grown g1
  obtain ⟨c0, c1, c2, c3, c4⟩ := (show Vc w1 w.heap.size ⟨3, m, g, x, r⟩ from A1)
  obtain ⟨d0, d1, d2, d3, d4⟩ := (show Vc w1 (w.heap.size + 1) ⟨2, n, h, y, s⟩ from B1)
  clear g1
  go_wp2_with fail
  refine (HZ _).mono ?_
  rintro e w2 ⟨rfl, g2⟩
  have G2 : Hid (Grown w w2) := Grown.trans G1 g2
  have A2 : Hid (Vc w2 w.heap.size ⟨3, m, g, x, r⟩) := Vc.grown A1 g2
  have B2 : Hid (Vc w2 (w.heap.size + 1) ⟨2, n, h, y, s⟩) := Vc.grown B1 g2
  clear G1 A1 B1 c0 c1 c2 c3 c4 d0 d1 d2 d3 d4
  obtain ⟨c0, c1, c2, c3, c4⟩ := (show Vc w2 w.heap.size ⟨3, m, g, x, r⟩ from A2)
  obtain ⟨d0, d1, d2, d3, d4⟩ := (show Vc w2 (w.heap.size + 1) ⟨2, n, h, y, s⟩ from B2)
  clear g2
  go_wp2_with fail
  refine (HT _).mono ?_
  rintro e w9 ⟨rfl, rfl⟩
  go_wp2_with fail
  go_ret
  exact ⟨rfl, G2⟩
set_option maxRecDepth 100000 in
set_option maxHeartbeats 2000000 in
theorem im_ff (a b : Vv) (ka : a.k = 3) (kb : b.k = 3) (w : World) : Calls Tryz.prog 48 #[vv a, vv b] w fun e w' => e = .returned (.int .i64 (odf a.g b.g)) ∧ Grown w w' := by
  have na : nmb a := .inr ka
  have nb : nmb b := .inr kb
  have AI := fun w => im_ints a b na nb w
  rw [dc_f (by omega)] at AI
  have HC := fun w => im_order a.g b.g w
  obtain ⟨k, m, g, x, r⟩ := a
  obtain ⟨l, n, h, y, s⟩ := b
  unfold vv at *
  dsimp only at *
  clear na nb
  subst ka kb
  go_enter Tryz.func48, Tryz.ntmps48
  go_wp2_with fail
  refine (AI _).mono ?_
  rintro e w1 ⟨rfl, g1⟩
  have G1 : Hid (Grown w w1) := Grown.trans (by go_grown) g1
  have A1 : Hid (Vc w1 w.heap.size ⟨3, m, g, x, r⟩) := Vc.grown ((Vc.new w 3 m g x r 26).grown (Grown.alloc (Grown.refl _) _ _)) g1
  have B1 : Hid (Vc w1 (w.heap.size + 1) ⟨3, n, h, y, s⟩) := by
    have q := Vc.new (w.alloc (.cells #[.int .i64 3, .int .i64 m, .float .f64 g, .string x, .int .i64 r] 26)) 3 n h y s 26
    rw [World.size_alloc] at q
    exact q.grown g1
  obtain ⟨c0, c1, c2, c3, c4⟩ := (show Vc w1 w.heap.size ⟨3, m, g, x, r⟩ from A1)
  obtain ⟨d0, d1, d2, d3, d4⟩ := (show Vc w1 (w.heap.size + 1) ⟨3, n, h, y, s⟩ from B1)
  clear g1
  go_wp2_with fail
  refine (HC _).mono ?_
  rintro e w9 ⟨rfl, rfl⟩
  go_wp2_with fail
  go_ret
  exact ⟨rfl, G1⟩
theorem fl_self (x : Nat) : FloatKind.f64.format.order x x = none ∨ FloatKind.f64.format.order x x = some .eq := by
  unfold Ieee.Format.order
  rcases Flt.d_self (FloatKind.f64.format.read x) with h | h
  · exact .inl (h.2 _).1
  · exact .inr h.2
theorem fl_nan (x y : Nat) (h : FloatKind.f64.format.order x x = none ∨ FloatKind.f64.format.order y y = none) : FloatKind.f64.format.order x y = none := by
  unfold Ieee.Format.order at *
  rcases h with h | h
  · rcases Flt.d_self (FloatKind.f64.format.read x) with g | g
    · exact (g.2 _).1
    · rw [g.2] at h; cases h
  · rcases Flt.d_self (FloatKind.f64.format.read y) with g | g
    · exact (g.2 _).2
    · rw [g.2] at h; cases h
end Go.Proofs.YtladepgpandklaaGreatDoor
namespace Go.Proofs.YtladepgpandklaaGreatDoor
open Go.ChangeShapes Go.WideShapes Go.ChangeAt Go.RowKit
set_option linter.unusedVariables false
set_option maxRecDepth 100000
attribute [local go_sem] run_equalIn_flt
theorem fl_some (x y : Nat) (hx : FloatKind.f64.format.order x x = some .eq) (hy : FloatKind.f64.format.order y y = some .eq) : ∃ o, FloatKind.f64.format.order x y = some o := by
  unfold Ieee.Format.order at *
  refine Flt.d_some _ _ ?_ ?_
  · rcases Flt.d_self (FloatKind.f64.format.read x) with g | g
    · rw [(g.2 _).1] at hx; cases hx
    · exact g.1
  · rcases Flt.d_self (FloatKind.f64.format.read y) with g | g
    · rw [(g.2 _).1] at hy; cases hy
    · exact g.1
theorem fz_eq {x y : Nat} (hx : x < 18446744073709551616) (hy : y < 18446744073709551616) (h1 : fz x) (h2 : fz y) : FloatKind.f64.format.order x y = some .eq := by
  have key : ∀ z, z < 18446744073709551616 → fz z → z = 0 ∨ z = 9223372036854775808 := fun z hz h => by
    unfold fz at h
    rcases Flt.zero_cases z hz with g | ⟨_, _, g⟩ | ⟨_, g⟩
    · rw [fl_nan z 0 (.inl g)] at h; cases h
    · exact g
    · rcases g with g | g <;> (rw [g] at h; cases h)
  rcases key x hx h1 with rfl | rfl <;> rcases key y hy h2 with rfl | rfl <;> decide
/-- values that are no floats have a zero there -/
theorem vok_fz {v : Vv} (h : vok v) (hk : ¬ v.k = 3) : fz v.g := by
  unfold vok zr at h
  rcases h with h | h | h | h | h | h | h | h | h
  · simpa using h.2.1.2.1
  · simpa using h.2.1.2.1
  · simpa using h.2.1.2.1
  · exact absurd h.1 hk
  · simpa using h.2.1.2.1
  · simpa using h.2.1.2.1
  · simpa using h.2.1.2.1
  · simpa using h.2.1.2.1
  · simpa using h.2.1.2.1
theorem num_both (a b : Vv) (ha : vok a) (hb : vok b) (hxa : (a.x.size : Int) ≤ 1048576) (hxb : (b.x.size : Int) ≤ 1048576) (ba : Vb a) (bb : Vb b) (na : nmb a) (nb : nmb b) : ∃ z : Int, (∀ w, Calls Tryz.prog 17 #[vv a, vv b] w fun e w' => e = .returned (.int .i64 z) ∧ Grown w w') ∧ (∀ w, Calls Tryz.prog 48 #[vv a, vv b] w fun e w' => e = .returned (.int .i64 z) ∧ Grown w w') := by
  rcases na with ka | ka <;> rcases nb with kb | kb
  · rcases Int.lt_trichotomy a.m b.m with q | q | q
    · exact ⟨_, fun w => sp_ii_lt a b ha hb hxa hxb ka kb q w, fun w => by rw [← cmpi_lt q]; exact im_ii a b ka kb w⟩
    · exact ⟨_, fun w => sp_ii_eq a b ha hb hxa hxb ka kb q w, fun w => by rw [← cmpi_eq q]; exact im_ii a b ka kb w⟩
    · exact ⟨_, fun w => sp_ii_gt a b ha hb hxa hxb ka kb q w, fun w => by rw [← cmpi_gt q]; exact im_ii a b ka kb w⟩
  · rcases fl_self b.g with hn | hn
    · exact ⟨_, fun w => sp_if_nan a b ha hb hxa hxb ka kb hn w, fun w => im_if a b ka kb 2 (fun w => im_oi_nan a.m b.g hn w) w⟩
    · obtain ⟨z, _, h1, h2⟩ := oi_both a.m b.g bb.g hn
      exact ⟨z, fun w => sp_if a b ha hb hxa hxb ka kb hn z h1 w, fun w => im_if a b ka kb z h2 w⟩
  · rcases fl_self a.g with hn | hn
    · exact ⟨_, fun w => sp_fi_nan a b ha hb hxa hxb ka kb hn w, fun w => im_fi a b ka kb 2 (fun w => im_oi_nan b.m a.g hn w) 2 im_turn2 w⟩
    · obtain ⟨z, hz, h1, h2⟩ := oi_both b.m a.g ba.g hn
      rcases hz with rfl | rfl | rfl
      · exact ⟨1, fun w => sp_fi_m a b ha hb hxa hxb ka kb hn h1 w, fun w => im_fi a b ka kb _ h2 1 (fun w => im_turn _ (by omega) w) w⟩
      · exact ⟨0, fun w => sp_fi_z a b ha hb hxa hxb ka kb hn h1 w, fun w => im_fi a b ka kb _ h2 0 (fun w => im_turn _ (by omega) w) w⟩
      · exact ⟨-1, fun w => sp_fi_p a b ha hb hxa hxb ka kb hn h1 w, fun w => im_fi a b ka kb _ h2 (-1) (fun w => im_turn _ (by omega) w) w⟩
  · have e : ∀ o z, FloatKind.f64.format.order a.g b.g = o → (match o with | some .lt => (-1 : Int) | some .gt => 1 | some .eq => 0 | none => 2) = z → odf a.g b.g = z := fun o z h1 h2 => by unfold odf; rw [h1]; exact h2
    rcases fl_self a.g with hm | hm
    · exact ⟨2, fun w => sp_ff_nana a b ha hb hxa hxb ka kb hm w, fun w => by rw [← e none 2 (fl_nan _ _ (.inl hm)) rfl]; exact im_ff a b ka kb w⟩
    rcases fl_self b.g with hn | hn
    · exact ⟨2, fun w => sp_ff_nanb a b ha hb hxa hxb ka kb hm hn w, fun w => by rw [← e none 2 (fl_nan _ _ (.inr hn)) rfl]; exact im_ff a b ka kb w⟩
    cases ho : FloatKind.f64.format.order a.g b.g with
    | none =>
      exfalso
      obtain ⟨o, h⟩ := fl_some a.g b.g hm hn
      rw [h] at ho; cases ho
    | some c =>
      cases c
      · exact ⟨-1, fun w => sp_ff_lt a b ha hb hxa hxb ka kb hm hn ho w, fun w => by rw [← e (some .lt) (-1) ho rfl]; exact im_ff a b ka kb w⟩
      · exact ⟨0, fun w => sp_ff_eq a b ha hb hxa hxb ka kb hm hn ho w, fun w => by rw [← e (some .eq) 0 ho rfl]; exact im_ff a b ka kb w⟩
      · exact ⟨1, fun w => sp_ff_gt a b ha hb hxa hxb ka kb hm hn ho w, fun w => by rw [← e (some .gt) 1 ho rfl]; exact im_ff a b ka kb w⟩
end Go.Proofs.YtladepgpandklaaGreatDoor
