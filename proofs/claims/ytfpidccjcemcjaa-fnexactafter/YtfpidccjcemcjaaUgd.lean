import Derived.Test.YtfpidccjcemcjaaUgc
import Derived.Test.YtfpidccjcemcjaaUbd
namespace Go.Proofs.Ytfpidccjcemcjaa
open Go.ChangeShapes Go.WideShapes Go.ChangeAt Go.RowKit
set_option linter.unusedVariables false
set_option maxRecDepth 100000
set_option maxHeartbeats 8000000 in
theorem eq_found (b : Bool) (p : Pv) (ha : p.a.g < 18446744073709551616) (hb : p.b.g < 18446744073709551616) (w : World) : Calls Try.prog 28 #[fov b p, fov b p] w fun e w' => e = .returned (.bool true) ∧ Kq w w' := by
  have HP := fun w => eq_pair p ha hb w
  obtain ⟨⟨kA, mA, gA, xA, rA⟩, ⟨kB, mB, gB, xB, rB⟩, tB⟩ := p
  unfold fov
  unfold pv at HP
  dsimp only at HP ⊢
  have h1 : (b != b) = false := by simp
  clear ha hb
  go_enter Try.func28, Try.ntmps28
  go_wp2_with fail
  refine (HP _).mono ?_
  rintro e w1 ⟨rfl, g1⟩
  have G1 : Hid (Kq w w1) := .of_grown (Grown.trans (by go_grown) g1)
  clear g1
  go_wp2_with fail
  go_ret
  exact ⟨rfl, G1⟩
set_option maxHeartbeats 8000000 in
theorem law_after {v : Value} {n : Nat} {F : Nat → Pv} (T tt : Int) (w : World) (ta : Ta w v n F) : Calls Try.prog 7 #[.agg #[v, .int .i64 T], .int .i64 tt] w fun e w' => e = .returned (.bool true) ∧ Kq w w' := by
  obtain ⟨pa, ca, rfl, _⟩ := ta.row
  obtain ⟨w1, hw1⟩ : ∃ w1, w1 = w.alloc (.cells #[.slice pa n ca, .int .i64 T] 35) := ⟨_, rfl⟩
  have k1 : Kq w w1 := by rw [hw1]; exact kq_alloc _ _ _
  have a1 : w1.heap[w.heap.size]? = some (.cells #[.slice pa n ca, .int .i64 T] 35 (0, 0)) := by rw [hw1]; exact alloc_new _ _
  have HS : Hid (∀ W, Kq w1 W → Calls Try.prog 14 #[.agg #[.slice pa n ca, .int .i64 T], .int .i64 1048576] W fun e w' => ∃ r : Int, e = .returned (.int .i64 r) ∧ (0 ≤ r → Tb n F) ∧ -1 ≤ r ∧ r ≤ 1048576 ∧ Kq W w') := (fun W q => (sz_table T W ((ta.row.kq k1).kq q) ta.len (fun i hi => ⟨(ta.a i hi).x, (ta.b i hi).x⟩)).mono (fun e w' ⟨r, h1, h2, h3, h4, h5⟩ => ⟨r, h1, fun h => ⟨by have := (h2 h).1; omega, ta.a, ta.b, fun i hi => ((h2 h).2 i hi).1, fun i hi => ((h2 h).2 i hi).2, ta.t⟩, h3, h4, h5⟩) : ∀ W, Kq w1 W → _)
  have HT : Hid (Tb n F → ∀ W, Kq w1 W → Calls Try.prog 16 #[.agg #[.slice pa n ca, .int .i64 T]] W fun e w' => ∃ v g, e = .returned (.agg #[v, .int .i64 T]) ∧ OwnP w' v g n F ∧ W.heap.size ≤ g ∧ g < w'.heap.size ∧ Kq W w') := (fun tb W q => to_table T W ((ta.row.kq k1).kq q) tb.len : Tb n F → ∀ W, Kq w1 W → _)
  have HA : Hid (∀ W, Kq w1 W → W.cell? ⟨w.heap.size, 0, none⟩ = some (.slice pa n ca) ∧ W.cell? ⟨w.heap.size, 1, none⟩ = some (.int .i64 T)) := (fun W q => ⟨q.cell (cell_of a1 rfl), q.cell (cell_of a1 rfl)⟩ : ∀ W, Kq w1 W → _)
  have HK : Hid (Kq w w1) := k1
  clear ta k1 a1
  go_enter Try.func7, Try.ntmps7
  go_wp2_with fail
  rw [← hw1]
  clear hw1
  refine ((show ∀ W, Kq w1 W → _ from HS) w1 (Kq.refl _)).mono ?_
  rintro e w2 ⟨r, rfl, htb, hr0, hr1, g2⟩
  have HK2 : Hid (Kq w1 w2) := g2
  have HTB : Hid (0 ≤ r → Tb n F) := htb
  clear htb g2 HS
  rcases Int.lt_or_le r 0 with hr | hr
  · go_wp2_with fail
    go_ret
    exact ⟨rfl, Kq.trans HK HK2⟩
  have hr' : ¬ r < 0 := by omega
  have tb := (show 0 ≤ r → Tb n F from HTB) hr
  have TBH : Hid (Tb n F) := tb
  have HTT := (show Tb n F → ∀ W, Kq w1 W → _ from HT) tb
  have HTH : Hid (∀ W, Kq w1 W → Calls Try.prog 16 #[.agg #[.slice pa n ca, .int .i64 T]] W fun e w' => ∃ v g, e = .returned (.agg #[v, .int .i64 T]) ∧ OwnP w' v g n F ∧ W.heap.size ≤ g ∧ g < w'.heap.size ∧ Kq W w') := HTT
  clear HTB HT HTT tb
  obtain ⟨a0, a1⟩ := (show ∀ W, Kq w1 W → _ from HA) w2 HK2
  go_wp2_with fail
  refine ((show ∀ W, Kq w1 W → _ from HTH) w2 HK2).mono ?_
  rintro e w3 ⟨v1, g1, rfl, ho1, _, _, k3⟩
  have HK3 : Hid (Kq w1 w3) := Kq.trans HK2 k3
  have HO : Hid (Calls Try.prog 26 #[.agg #[v1, .int .i64 T], .int .i64 tt] w3 fun e w' => ∃ b p, e = .returned (fov b p) ∧ AfT n F T tt b p ∧ Kq w3 w') := sp_after T tt w3 ho1 TBH
  obtain ⟨p1, c1, rfl, _⟩ := ho1.sl
  clear ho1 k3 HK2 a0 a1
  go_wp2_with fail
  refine (show Calls Try.prog 26 #[.agg #[.slice p1 n c1, .int .i64 T], .int .i64 tt] w3 _ from HO).mono ?_
  rintro e w4' ⟨b, p, rfl, haf, k4'⟩
  have HAF : Hid (AfT n F T tt b p) := haf
  have HEQ := fun w => eq_found b p (haf.glt TBH).1 (haf.glt TBH).2 w
  obtain ⟨⟨kA, mA, gA, xA, rA⟩, ⟨kB, mB, gB, xB, rB⟩, tB⟩ := p
  unfold fov at HEQ ⊢
  dsimp only at HEQ ⊢
  obtain ⟨w4, hw4⟩ : ∃ w4, w4 = w4'.alloc (.cells #[.bool b, .int .i64 kA, .int .i64 mA, .float .f64 gA, .string xA, .int .i64 rA, .int .i64 kB, .int .i64 mB, .float .f64 gB, .string xB, .int .i64 rB, .int .i64 tB] 53) := ⟨_, rfl⟩
  have k4 : Kq w3 w4 := by rw [hw4]; exact k4'.trans (kq_alloc _ _ _)
  have HY : Hid (Fc w4 w4'.heap.size b ⟨⟨kA, mA, gA, xA, rA⟩, ⟨kB, mB, gB, xB, rB⟩, tB⟩) := by rw [hw4]; exact Fc.new w4' b ⟨⟨kA, mA, gA, xA, rA⟩, ⟨kB, mB, gB, xB, rB⟩, tB⟩ 53
  have HK4 : Hid (Kq w1 w4) := Kq.trans HK3 k4
  clear haf k4'
  have hst : ∀ (a : Addr) (n : Nat) (m : Mode) (w : World), (store a (.float .f64 n) m).run Try.prog w = stored Try.prog w a (.float .f64 n) m := fun a n m w => run_store _ _ _ _ _ rfl
  obtain ⟨a0', a1'⟩ := (show ∀ W, Kq w1 W → _ from HA) w4 HK4
  rw [hw4] at a0' a1'
  clear k4 HK3 HO
  go_wp2_with fail
  rw [← hw4]
  clear hw4 a0' a1'
  generalize w4'.heap.size = Y at HY ⊢
  refine ((show ∀ W, Kq w1 W → _ from HTH) w4 HK4).mono ?_
  rintro e w5 ⟨v2, g2, rfl, ho2, _, _, k5⟩
  have HK5 : Hid (Kq w1 w5) := Kq.trans HK4 k5
  have HY5 : Hid (Fc w5 Y b ⟨⟨kA, mA, gA, xA, rA⟩, ⟨kB, mB, gB, xB, rB⟩, tB⟩) := Fc.kq HY k5
  obtain ⟨pb, cb, rfl, _⟩ := ho2.sl
  obtain ⟨w6, hw6⟩ : ∃ w6, w6 = w5.alloc (.cells #[.slice pb n cb, .int .i64 T] 40) := ⟨_, rfl⟩
  have k6 : Kq w5 w6 := by rw [hw6]; exact kq_alloc _ _ _
  have x6 : w6.heap[w5.heap.size]? = some (.cells #[.slice pb n cb, .int .i64 T] 40 (0, 0)) := by rw [hw6]; exact alloc_new _ _
  have HO6 : Hid (OwnP w6 (.slice pb n cb) g2 n F) := ho2.kq k6
  have HI : Hid (Calls Try.prog 27 #[.agg #[.slice pb n cb, .int .i64 T], .int .i64 tt] w6 fun e w' => ∃ b p, e = .returned (fov b p) ∧ AfT n F T tt b p ∧ Kq w6 w') := im_after T tt w6 (ho2.kq k6) TBH
  have HK6 : Hid (Kq w1 w6) := Kq.trans HK5 k6
  have HX6 : Hid (∀ W, Kq w6 W → W.cell? ⟨w5.heap.size, 0, none⟩ = some (.slice pb n cb) ∧ W.cell? ⟨w5.heap.size, 1, none⟩ = some (.int .i64 T)) := (fun W q => ⟨q.cell (cell_of x6 rfl), q.cell (cell_of x6 rfl)⟩ : ∀ W, Kq w6 W → _)
  have HY6 : Hid (Fc w6 Y b ⟨⟨kA, mA, gA, xA, rA⟩, ⟨kB, mB, gB, xB, rB⟩, tB⟩) := Fc.kq HY5 k6
  clear ho2 k5 HK4 HK5 k6 x6 HY HY5
  go_wp2_with fail
  rw [← hw6]
  clear hw6
  generalize w5.heap.size = X at HX6 ⊢
  refine (show Calls Try.prog 27 #[.agg #[.slice pb n cb, .int .i64 T], .int .i64 tt] w6 _ from HI).mono ?_
  rintro e w7' ⟨b', p', rfl, haf', k7'⟩
  obtain ⟨rfl, rfl⟩ := AfT.uniq HAF haf'
  unfold fov
  dsimp only
  obtain ⟨w7, hw7⟩ : ∃ w7, w7 = w7'.alloc (.cells #[.bool b, .int .i64 kA, .int .i64 mA, .float .f64 gA, .string xA, .int .i64 rA, .int .i64 kB, .int .i64 mB, .float .f64 gB, .string xB, .int .i64 rB, .int .i64 tB] 53) := ⟨_, rfl⟩
  have k7 : Kq w6 w7 := by rw [hw7]; exact k7'.trans (kq_alloc _ _ _)
  have HV7 : Hid (Fc w7 w7'.heap.size b ⟨⟨kA, mA, gA, xA, rA⟩, ⟨kB, mB, gB, xB, rB⟩, tB⟩) := by rw [hw7]; exact Fc.new w7' b ⟨⟨kA, mA, gA, xA, rA⟩, ⟨kB, mB, gB, xB, rB⟩, tB⟩ 53
  have HY7 : Hid (Fc w7 Y b ⟨⟨kA, mA, gA, xA, rA⟩, ⟨kB, mB, gB, xB, rB⟩, tB⟩) := Fc.kq HY6 k7
  clear haf' k7' HAF HY6
  have HK7 : Hid (Kq w1 w7) := Kq.trans HK6 k7
  have HK67 : Hid (Kq w6 w7) := k7
  clear HI k7 HK6
  have HSS : Hid (∀ W', Kq w7 W' → W'.cell? ⟨w.heap.size, 0, none⟩ = some (.slice pa n ca) ∧ W'.cell? ⟨w.heap.size, 1, none⟩ = some (.int .i64 T) ∧ W'.cell? ⟨X, 0, none⟩ = some (.slice pb n cb) ∧ W'.cell? ⟨X, 1, none⟩ = some (.int .i64 T)) := (fun W' q => ⟨((show ∀ W, Kq w1 W → _ from HA) W' (Kq.trans HK7 q)).1, ((show ∀ W, Kq w1 W → _ from HA) W' (Kq.trans HK7 q)).2, ((show ∀ W, Kq w6 W → _ from HX6) W' (Kq.trans HK67 q)).1, ((show ∀ W, Kq w6 W → _ from HX6) W' (Kq.trans HK67 q)).2⟩ : ∀ W', Kq w7 W' → _)
  clear HA HX6
  have vy : Hid (Fc w7 Y b ⟨⟨kA, mA, gA, xA, rA⟩, ⟨kB, mB, gB, xB, rB⟩, tB⟩ ∧ Fc w7 w7'.heap.size b ⟨⟨kA, mA, gA, xA, rA⟩, ⟨kB, mB, gB, xB, rB⟩, tB⟩) := (⟨HY7, HV7⟩ : _ ∧ _)
  go_upto_region 8 with fail
  rw [← hw7]
  clear hw7
  generalize w7'.heap.size = V at vy ⊢
  obtain ⟨⟨y0, y1, y2, y3, y4, y5, y6, y7, y8, y9, y10, y11⟩, ⟨v0, v1, v2, v3, v4, v5, v6, v7, v8, v9, v10, v11⟩⟩ := (show Fc w7 Y b ⟨⟨kA, mA, gA, xA, rA⟩, ⟨kB, mB, gB, xB, rB⟩, tB⟩ ∧ Fc w7 V b ⟨⟨kA, mA, gA, xA, rA⟩, ⟨kB, mB, gB, xB, rB⟩, tB⟩ from vy)
  dsimp only at y0 v0 y1 v1 y2 v2 y3 v3 y4 v4 y5 v5 y6 v6 y7 v7 y8 v8 y9 v9 y10 v10 y11 v11
  go_wp2_with fail
  refine (HEQ _).mono ?_
  rintro e w7b ⟨rfl, k7b⟩
  have HK7b : Hid (Kq w1 w7b) := Kq.trans HK7 k7b
  have HK67b : Hid (Kq w6 w7b) := Kq.trans HK67 k7b
  have HSSb : Hid (∀ W', Kq w7b W' → W'.cell? ⟨w.heap.size, 0, none⟩ = some (.slice pa n ca) ∧ W'.cell? ⟨w.heap.size, 1, none⟩ = some (.int .i64 T) ∧ W'.cell? ⟨X, 0, none⟩ = some (.slice pb n cb) ∧ W'.cell? ⟨X, 1, none⟩ = some (.int .i64 T)) := (fun W' q => (show ∀ W', Kq w7 W' → W'.cell? ⟨w.heap.size, 0, none⟩ = some (.slice pa n ca) ∧ W'.cell? ⟨w.heap.size, 1, none⟩ = some (.int .i64 T) ∧ W'.cell? ⟨X, 0, none⟩ = some (.slice pb n cb) ∧ W'.cell? ⟨X, 1, none⟩ = some (.int .i64 T) from HSS) W' (Kq.trans k7b q) : ∀ W', Kq w7b W' → _)
  clear k7b HK7 HK67 HSS HEQ vy HY7 HV7 y0 v0 y1 v1 y2 v2 y3 v3 y4 v4 y5 v5 y6 v6 y7 v7 y8 v8 y9 v9 y10 v10 y11 v11
  go_wp2_with fail
  refine AnyL.region (S := fun W' : World => W'.cell? ⟨w.heap.size, 0, none⟩ = some (.slice pa n ca) ∧ W'.cell? ⟨w.heap.size, 1, none⟩ = some (.int .i64 T) ∧ W'.cell? ⟨X, 0, none⟩ = some (.slice pb n cb) ∧ W'.cell? ⟨X, 1, none⟩ = some (.int .i64 T)) (z := 99) (by kernel_rfl) ?_
  have hS0 : (fun W' : World => W'.cell? ⟨w.heap.size, 0, none⟩ = some (.slice pa n ca) ∧ W'.cell? ⟨w.heap.size, 1, none⟩ = some (.int .i64 T) ∧ W'.cell? ⟨X, 0, none⟩ = some (.slice pb n cb) ∧ W'.cell? ⟨X, 1, none⟩ = some (.int .i64 T)) w7b.drew := (show ∀ W', Kq w7b W' → W'.cell? ⟨w.heap.size, 0, none⟩ = some (.slice pa n ca) ∧ W'.cell? ⟨w.heap.size, 1, none⟩ = some (.int .i64 T) ∧ W'.cell? ⟨X, 0, none⟩ = some (.slice pb n cb) ∧ W'.cell? ⟨X, 1, none⟩ = some (.int .i64 T) from HSSb) w7b.drew (Kq.drew (Kq.refl _))
  refine AnyL.takeAt 0 (.agg #[.slice pb n cb, .int .i64 T]) rfl (by kernel_rfl) (by kernel_rfl) (by kernel_rfl) (by kernel_rfl) (fun _ _ _ h => h) rfl hS0 (by intro W hW; obtain ⟨q0, q1, q2, q3⟩ := hW; go_simp) ?_
  try simp only [Act.put, List.setIfInBounds_toArray, List.set_cons_zero, List.set_cons_succ]
  refine AnyL.takeAt 1 (.agg #[.slice pa n ca, .int .i64 T]) rfl (by kernel_rfl) (by kernel_rfl) (by kernel_rfl) (by kernel_rfl) (fun _ _ _ h => h) rfl hS0 (by intro W hW; obtain ⟨q0, q1, q2, q3⟩ := hW; go_simp) ?_
  try simp only [Act.put, List.setIfInBounds_toArray, List.set_cons_zero, List.set_cons_succ]
  refine AnyL.oneAt 2 rfl (by kernel_rfl) rfl ?_
  intro K hK
  go_simp
  refine ((show ∀ W, Kq w1 W → _ from HTH) w7b.drew (Kq.drew HK7b)).mono ?_
  rintro e w8 ⟨v3, g3, rfl, ho3, _, _, k8⟩
  have K8 : Hid (Kq w7b w8) := Kq.trans (Kq.drew (Kq.refl _)) k8
  have hS8 := (show ∀ W', Kq w7b W' → W'.cell? ⟨w.heap.size, 0, none⟩ = some (.slice pa n ca) ∧ W'.cell? ⟨w.heap.size, 1, none⟩ = some (.int .i64 T) ∧ W'.cell? ⟨X, 0, none⟩ = some (.slice pb n cb) ∧ W'.cell? ⟨X, 1, none⟩ = some (.int .i64 T) from HSSb) w8 K8
  have HE : Hid (Calls Try.prog 18 #[.agg #[.slice pb n cb, .int .i64 T], .agg #[v3, .int .i64 T]] w8 fun e w' => e = .returned (.bool true) ∧ Kq w8 w') := eq_table T w8 (OwnP.kq HO6 (Kq.trans HK67b K8)) ho3 (show Tb n F from TBH).len (fun i hi => ⟨((show Tb n F from TBH).a i hi).g, ((show Tb n F from TBH).b i hi).g⟩)
  obtain ⟨p3, c3, rfl, _⟩ := ho3.sl
  clear k8 ho3
  refine hK.out _ _ (fun _ => hS8) ?_
  clear hK K
  try simp only [Act.put, List.setIfInBounds_toArray, List.set_cons_zero, List.set_cons_succ]
  refine AnyL.oneAt 3 rfl (by kernel_rfl) rfl ?_
  intro K hK
  go_simp
  refine (show Calls Try.prog 18 #[.agg #[.slice pb n cb, .int .i64 T], .agg #[.slice p3 n c3, .int .i64 T]] w8 _ from HE).mono ?_
  rintro e w9 ⟨rfl, k9⟩
  have hS9 := (show ∀ W', Kq w7b W' → W'.cell? ⟨w.heap.size, 0, none⟩ = some (.slice pa n ca) ∧ W'.cell? ⟨w.heap.size, 1, none⟩ = some (.int .i64 T) ∧ W'.cell? ⟨X, 0, none⟩ = some (.slice pb n cb) ∧ W'.cell? ⟨X, 1, none⟩ = some (.int .i64 T) from HSSb) w9 (Kq.trans K8 k9)
  have KE : Hid (Kq w w9) := Kq.trans HK (Kq.trans HK7b (Kq.trans K8 k9))
  clear k9
  refine hK.out _ _ (fun _ => hS9) ?_
  clear hK K
  try simp only [Act.put, List.setIfInBounds_toArray, List.set_cons_zero, List.set_cons_succ]
  refine AnyL.takeAt 4 (.bool false) rfl (by kernel_rfl) (by kernel_rfl) (by kernel_rfl) (by kernel_rfl) (fun _ _ _ h => h) rfl hS9 (by intro W hW; go_simp) ?_
  try simp only [Act.put, List.setIfInBounds_toArray, List.set_cons_zero, List.set_cons_succ]
  refine AnyL.done (by kernel_rfl) ?_
  clear hS0 hS8 hS9 HSSb HE HTH TBH HO6 HK7b HK67b K8
  go_wp2_with fail
  go_ret
  exact ⟨rfl, KE⟩
end Go.Proofs.Ytfpidccjcemcjaa
