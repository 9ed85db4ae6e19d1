import Derived.Test.YtfpidccjcemcjaaUgb
namespace Go.Proofs.Ytfpidccjcemcjaa
open Go.ChangeShapes Go.WideShapes Go.ChangeAt Go.RowKit
set_option linter.unusedVariables false
set_option maxRecDepth 100000
set_option maxHeartbeats 8000000 in
theorem im_after {v : Value} {g n : Nat} {F : Nat → Pv} (T tt : Int) (w : World) (ha : OwnP w v g n F) (tb : Tb n F) : Calls Try.prog 27 #[.agg #[v, .int .i64 T], .int .i64 tt] w fun e w' => ∃ b p, e = .returned (fov b p) ∧ AfT n F T tt b p ∧ Kq w w' := by
  obtain ⟨pa, ca, rfl, ha2⟩ := ha.sl
  obtain ⟨w2, hw2⟩ : ∃ w2, w2 = (w.alloc (.cells #[.slice pa n ca, .int .i64 T] 40)).alloc (.cells #[.bool false, .int .i64 0, .int .i64 0, .float .f64 0, .string ⟨#[]⟩, .int .i64 0, .int .i64 0, .int .i64 0, .float .f64 0, .string ⟨#[]⟩, .int .i64 0, .int .i64 0] 53) := ⟨_, rfl⟩
  obtain ⟨x0, x1, z2, k2⟩ := two_new w _ _ _ _ w2 hw2
  have rf2 : Rf w2 (w.heap.size + 1) := by
    have h := Rf.new (w.alloc (.cells #[.slice pa n ca, .int .i64 T] 40)) 53
    rw [World.size_alloc] at h
    rw [hw2]; exact h
  have HL : Hid (Calls Try.prog 43 #[.agg #[.slice pa n ca, .int .i64 T]] w2 fun e w' => LO w2 n F T e w') := im_ledger T w2 (ha.kq k2) tb
  have HX : Hid (Kq w w2 ∧ Rf w2 (w.heap.size + 1)) := (⟨k2, rf2⟩ : _ ∧ _)
  clear x0 x1 z2 k2 rf2 ha2 ha tb
  have hst : ∀ (a : Addr) (n : Nat) (m : Mode) (w : World), (store a (.float .f64 n) m).run Try.prog w = stored Try.prog w a (.float .f64 n) m := fun a n m w => run_store _ _ _ _ _ rfl
  unfold fov
  go_enter Try.func27, Try.ntmps27
  go_wp2_with fail
  rw [← hw2]
  clear hw2
  refine (show Calls Try.prog 43 #[.agg #[.slice pa n ca, .int .i64 T]] w2 _ from HL).mono ?_
  intro e w3 h3
  have hX := (show Kq w w2 ∧ Rf w2 (w.heap.size + 1) from HX)
  rcases h3 with ⟨ht, rfl, k3⟩ | ⟨ht, B, M, v', rfl, l3⟩
  · have GK : Hid (Kq w w3) := hX.1.trans k3
    have RF : Hid (Rf w3 (w.heap.size + 1)) := hX.2.kq k3
    have HE : Hid (AfT n F T tt false pz) := (.inl ⟨ht, rfl, rfl⟩ : AfT n F T tt false pz)
    obtain ⟨u0, u1, u2, u3, u4, u5, u6, u7, u8, u9, u10, u11, uz⟩ := (show Rf w3 (w.heap.size + 1) from RF)
    clear hX HX HL ht k3
    go_wp2_with fail
    obtain ⟨e0, e1, e2, e3, e4, e5, e6, e7, e8, e9, e10, e11⟩ := s12_fc (show Rf w3 (w.heap.size + 1) from RF) false pz
    have GG : Hid (Kq w (s12 w3 (w.heap.size + 1) false pz)) := s12_kq GK (by omega) false pz
    obtain ⟨WF, hWF⟩ : ∃ WF, WF = s12 w3 (w.heap.size + 1) false pz := ⟨_, rfl⟩
    rw [← hWF] at e0 e1 e2 e3 e4 e5 e6 e7 e8 e9 e10 e11 GG
    have hWF' := hWF
    unfold s12 at hWF'
    try dsimp only [pz] at hWF' e0 e1 e2 e3 e4 e5 e6 e7 e8 e9 e10 e11
    rw [← hWF']
    clear hWF hWF'
    refine bodyPost_ret (by simp [results, Try.results27, go_sem, e0, e1, e2, e3, e4, e5, e6, e7, e8, e9, e10, e11]; rfl) rfl ?_
    exact ⟨false, pz, rfl, HE, GG⟩
  · have HA : Hid (Calls Try.prog 54 #[.pointer (some ⟨B, 0, none⟩), .int .i64 tt] w3 fun e w' => ∃ b p, e = .returned (fov b p) ∧ Af n F tt b p ∧ Kq w3 w') := im_after0 tt w3 l3 ht
    have HK3 : Hid (Kq w2 w3) := l3.kq
    have HT : Hid (tok n F T) := ht
    clear hX HL ht l3
    go_wp2_with fail
    refine (show Calls Try.prog 54 #[.pointer (some ⟨B, 0, none⟩), .int .i64 tt] w3 _ from HA).mono ?_
    rintro e w4 ⟨b, p, rfl, haf, k4⟩
    have hX := (show Kq w w2 ∧ Rf w2 (w.heap.size + 1) from HX)
    have GK : Hid (Kq w w4) := hX.1.trans (Kq.trans HK3 k4)
    have RF : Hid (Rf w4 (w.heap.size + 1)) := hX.2.kq (Kq.trans HK3 k4)
    have HE : Hid (AfT n F T tt b p) := (.inr ⟨HT, haf⟩ : AfT n F T tt b p)
    obtain ⟨u0, u1, u2, u3, u4, u5, u6, u7, u8, u9, u10, u11, uz⟩ := (show Rf w4 (w.heap.size + 1) from RF)
    clear hX HX HA HK3 HT haf k4
    unfold fov
    obtain ⟨⟨k, m, gg, x, r⟩, ⟨k2, m2, g2, x2, r2⟩, t⟩ := p
    dsimp only
    go_wp2_with fail
    obtain ⟨e0, e1, e2, e3, e4, e5, e6, e7, e8, e9, e10, e11⟩ := s12_fc (show Rf w4 (w.heap.size + 1) from RF) b ⟨⟨k, m, gg, x, r⟩, ⟨k2, m2, g2, x2, r2⟩, t⟩
    have GG : Hid (Kq w (s12 w4 (w.heap.size + 1) b ⟨⟨k, m, gg, x, r⟩, ⟨k2, m2, g2, x2, r2⟩, t⟩)) := s12_kq GK (by omega) b ⟨⟨k, m, gg, x, r⟩, ⟨k2, m2, g2, x2, r2⟩, t⟩
    obtain ⟨WF, hWF⟩ : ∃ WF, WF = s12 w4 (w.heap.size + 1) b ⟨⟨k, m, gg, x, r⟩, ⟨k2, m2, g2, x2, r2⟩, t⟩ := ⟨_, rfl⟩
    rw [← hWF] at e0 e1 e2 e3 e4 e5 e6 e7 e8 e9 e10 e11 GG
    have hWF' := hWF
    unfold s12 at hWF'
    try dsimp only [pz] at hWF' e0 e1 e2 e3 e4 e5 e6 e7 e8 e9 e10 e11
    rw [← hWF']
    clear hWF hWF'
    refine bodyPost_ret (by simp [results, Try.results27, go_sem, e0, e1, e2, e3, e4, e5, e6, e7, e8, e9, e10, e11]; rfl) rfl ?_
    exact ⟨b, ⟨⟨k, m, gg, x, r⟩, ⟨k2, m2, g2, x2, r2⟩, t⟩, rfl, HE, GG⟩
set_option maxHeartbeats 8000000 in
theorem sp_after0 {v : Value} {g n : Nat} {F : Nat → Pv} (T tt : Int) (w : World) (ha : OwnP w v g n F) (tb : Tb n F) (hasc : ∀ a b, a ≤ b → b < n → (F a).t ≤ (F b).t) : Calls Try.prog 53 #[.agg #[v, .int .i64 T], .int .i64 tt] w fun e w' => ∃ b p, e = .returned (fov b p) ∧ Af n F tt b p ∧ Kq w w' := by
  obtain ⟨pa, ca, rfl, ha2⟩ := ha.sl
  have hnI : (n : Int) ≤ 1048576 := by have := tb.len; omega
  obtain ⟨w2, hw2⟩ : ∃ w2, w2 = (w.alloc (.cells #[.slice pa n ca, .int .i64 T] 40)).alloc (.cells #[.bool false, .int .i64 0, .int .i64 0, .float .f64 0, .string ⟨#[]⟩, .int .i64 0, .int .i64 0, .int .i64 0, .float .f64 0, .string ⟨#[]⟩, .int .i64 0, .int .i64 0] 53) := ⟨_, rfl⟩
  obtain ⟨x0, x1, z2, k2⟩ := two_new w _ _ _ _ w2 hw2
  have rf2 : Rf w2 (w.heap.size + 1) := by
    have h := Rf.new (w.alloc (.cells #[.slice pa n ca, .int .i64 T] 40)) 53
    rw [World.size_alloc] at h
    rw [hw2]; exact h
  have HX : Hid (Kq w w2 ∧ Rf w2 (w.heap.size + 1) ∧ (0 < n → pa = some ⟨g, 0, none⟩ ∧ n ≤ ca) ∧ (∀ i, i < n → Cp w2 ⟨g, i * 11, none⟩ (F i)) ∧ (∀ a b, a ≤ b → b < n → (F a).t ≤ (F b).t)) := (⟨k2, rf2, ha2, fun i hi => (ha.ce i hi).kq k2, hasc⟩ : _ ∧ _ ∧ _ ∧ _ ∧ _)
  clear x0 x1 z2 k2 rf2 ha2 ha tb hasc
  have hst : ∀ (a : Addr) (n : Nat) (m : Mode) (w : World), (store a (.float .f64 n) m).run Try.prog w = stored Try.prog w a (.float .f64 n) m := fun a n m w => run_store _ _ _ _ _ rfl
  unfold fov
  go_enter Try.func53, Try.ntmps53
  go_wp2_with fail
  rw [← hw2]
  clear hw2
  go_loopw [10] (fun s10 wr => ∃ j : Nat, s10 = .int .i64 (j : Int) ∧ j ≤ n ∧ Hid (Kq w2 wr ∧ ∀ j', j' < j → (F j').t ≤ tt)) (fun s10 _ => n - (intOf s10).toNat)
  case atStart => exact ⟨0, rfl, Nat.zero_le _, (⟨Kq.refl _, fun j hj => by omega⟩ : _ ∧ _)⟩
  case round =>
    obtain ⟨j, rfl, hji, HY⟩ := hrel
    have hX := (show Kq w w2 ∧ Rf w2 (w.heap.size + 1) ∧ (0 < n → pa = some ⟨g, 0, none⟩ ∧ n ≤ ca) ∧ (∀ i, i < n → Cp w2 ⟨g, i * 11, none⟩ (F i)) ∧ (∀ a b, a ≤ b → b < n → (F a).t ≤ (F b).t) from HX)
    have hY := (show Kq w2 wr ∧ ∀ j', j' < j → (F j').t ≤ tt from HY)
    rcases Nat.lt_or_ge j n with hj | hj
    · obtain ⟨rfl, hca⟩ := hX.2.2.1 (by omega)
      obtain ⟨d0, d1, d2, d3, d4, d5, d6, d7, d8, d9, d10⟩ := (hX.2.2.2.1 j hj).kq hY.1
      have HGT : Hid (tt < (F j).t → Af n F tt true (F j)) := (fun h => ⟨j, ⟨by omega, hY.2, fun i h1 h2 => by have := hX.2.2.2.2 j i h1 h2; omega⟩, .inr ⟨hj, rfl, rfl⟩⟩ : tt < (F j).t → Af n F tt true (F j))
      have HLE : Hid ((F j).t ≤ tt → ∀ j', j' < j + 1 → (F j').t ≤ tt) := (fun h j' hj' => by
        by_cases e : j' = j
        · subst e; exact h
        · exact hY.2 j' (by omega) : (F j).t ≤ tt → ∀ j', j' < j + 1 → (F j').t ≤ tt)
      have hjI : (j : Int) < (n : Int) := by omega
      have HKR : Hid (Kq w2 wr) := hY.1
      have HX2 : Hid (Kq w w2 ∧ Rf w2 (w.heap.size + 1)) := (⟨hX.1, hX.2.1⟩ : _ ∧ _)
      clear hX HX hY HY
      generalize F j = p at HGT HLE d0 d1 d2 d3 d4 d5 d6 d7 d8 d9 d10
      obtain ⟨⟨k, m, gg, x, r⟩, ⟨k2, m2, g2, x2, r2⟩, t⟩ := p
      dsimp only at d0 d1 d2 d3 d4 d5 d6 d7 d8 d9 d10 HGT HLE
      go_upto_region 4 with fail
      have kn : Kq wr (wr.alloc (.cells #[.int .i64 k, .int .i64 m, .float .f64 gg, .string x, .int .i64 r, .int .i64 k2, .int .i64 m2, .float .f64 g2, .string x2, .int .i64 r2, .int .i64 t] 51)) := kq_alloc _ _ _
      have HP : Hid (Pb (wr.alloc (.cells #[.int .i64 k, .int .i64 m, .float .f64 gg, .string x, .int .i64 r, .int .i64 k2, .int .i64 m2, .float .f64 g2, .string x2, .int .i64 r2, .int .i64 t] 51)) wr.heap.size ⟨⟨k, m, gg, x, r⟩, ⟨k2, m2, g2, x2, r2⟩, t⟩) := Pb.new wr ⟨⟨k, m, gg, x, r⟩, ⟨k2, m2, g2, x2, r2⟩, t⟩ 51
      have HK3 : Hid (Kq w2 (wr.alloc (.cells #[.int .i64 k, .int .i64 m, .float .f64 gg, .string x, .int .i64 r, .int .i64 k2, .int .i64 m2, .float .f64 g2, .string x2, .int .i64 r2, .int .i64 t] 51))) := Kq.trans HKR kn
      clear kn HKR d0 d1 d2 d3 d4 d5 d6 d7 d8 d9 d10
      generalize wr.alloc (.cells #[.int .i64 k, .int .i64 m, .float .f64 gg, .string x, .int .i64 r, .int .i64 k2, .int .i64 m2, .float .f64 g2, .string x2, .int .i64 r2, .int .i64 t] 51) = w3 at HP HK3 ⊢
      generalize wr.heap.size = PB at HP ⊢
      obtain ⟨p0, p1, p2, p3, p4, p5, p6, p7, p8, p9, p10⟩ := (show Pb w3 PB ⟨⟨k, m, gg, x, r⟩, ⟨k2, m2, g2, x2, r2⟩, t⟩ from HP)
      dsimp only at p0 p1 p2 p3 p4 p5 p6 p7 p8 p9 p10
      have hX := (show Kq w w2 ∧ Rf w2 (w.heap.size + 1) from HX2)
      rcases Int.lt_or_le tt t with hlt | hle
      · have HE := (show tt < t → Af n F tt true ⟨⟨k, m, gg, x, r⟩, ⟨k2, m2, g2, x2, r2⟩, t⟩ from HGT) hlt
        have HEH : Hid (Af n F tt true ⟨⟨k, m, gg, x, r⟩, ⟨k2, m2, g2, x2, r2⟩, t⟩) := HE
        have GK : Hid (Kq w w3) := hX.1.trans HK3
        have RF : Hid (Rf w3 (w.heap.size + 1)) := hX.2.kq HK3
        obtain ⟨u0, u1, u2, u3, u4, u5, u6, u7, u8, u9, u10, u11, uz⟩ := (show Rf w3 (w.heap.size + 1) from RF)
        clear hX HX2 HK3 HGT HLE HE HP
        go_wp2_with fail
        clear p0 p1 p2 p3 p4 p5 p6 p7 p8 p9 p10 u0 u1 u2 u3 u4 u5 u6 u7 u8 u9 u10 u11 uz
        obtain ⟨e0, e1, e2, e3, e4, e5, e6, e7, e8, e9, e10, e11⟩ := s12_fc (show Rf w3 (w.heap.size + 1) from RF) true ⟨⟨k, m, gg, x, r⟩, ⟨k2, m2, g2, x2, r2⟩, t⟩
        have GG : Hid (Kq w (s12 w3 (w.heap.size + 1) true ⟨⟨k, m, gg, x, r⟩, ⟨k2, m2, g2, x2, r2⟩, t⟩)) := s12_kq GK (by omega) true ⟨⟨k, m, gg, x, r⟩, ⟨k2, m2, g2, x2, r2⟩, t⟩
        obtain ⟨WF, hWF⟩ : ∃ WF, WF = s12 w3 (w.heap.size + 1) true ⟨⟨k, m, gg, x, r⟩, ⟨k2, m2, g2, x2, r2⟩, t⟩ := ⟨_, rfl⟩
        rw [← hWF] at e0 e1 e2 e3 e4 e5 e6 e7 e8 e9 e10 e11 GG
        have hWF' := hWF
        unfold s12 at hWF'
        try dsimp only [pz] at hWF' e0 e1 e2 e3 e4 e5 e6 e7 e8 e9 e10 e11
        rw [← hWF']
        clear hWF hWF'
        refine bodyPost_ret (by simp [results, Try.results53, go_sem, e0, e1, e2, e3, e4, e5, e6, e7, e8, e9, e10, e11]; rfl) rfl ?_
        exact ⟨true, ⟨⟨k, m, gg, x, r⟩, ⟨k2, m2, g2, x2, r2⟩, t⟩, rfl, HEH, GG⟩
      · have hng : ¬ tt < t := by omega
        have HN : Hid (Kq w2 w3 ∧ ∀ j', j' < j + 1 → (F j').t ≤ tt) := (⟨HK3, (show t ≤ tt → _ from HLE) hle⟩ : _ ∧ _)
        clear hX HX2 HK3 HGT HLE HP
        go_wp2_with fail
        go_roundw
        case rel => first | exact ⟨j + 1, by go_num, by omega, HN⟩ | ((repeat apply Exists.intro); exact ⟨⟨j + 1, by go_num, by omega, HN⟩, rfl⟩)
        case measure => simp [intOf]; omega
    · obtain rfl : j = n := by omega
      have HE : Hid (Af j F tt false pz) := (⟨j, ⟨Nat.le_refl _, hY.2, fun i h1 h2 => by omega⟩, .inl ⟨rfl, rfl, rfl⟩⟩ : Af j F tt false pz)
      have GK : Hid (Kq w wr) := hX.1.trans hY.1
      have RF : Hid (Rf wr (w.heap.size + 1)) := hX.2.1.kq hY.1
      obtain ⟨u0, u1, u2, u3, u4, u5, u6, u7, u8, u9, u10, u11, uz⟩ := (show Rf wr (w.heap.size + 1) from RF)
      clear hX HX hY HY
      go_wp2_with fail
      obtain ⟨e0, e1, e2, e3, e4, e5, e6, e7, e8, e9, e10, e11⟩ := s12_fc (show Rf wr (w.heap.size + 1) from RF) false pz
      have GG : Hid (Kq w (s12 wr (w.heap.size + 1) false pz)) := s12_kq GK (by omega) false pz
      obtain ⟨WF, hWF⟩ : ∃ WF, WF = s12 wr (w.heap.size + 1) false pz := ⟨_, rfl⟩
      rw [← hWF] at e0 e1 e2 e3 e4 e5 e6 e7 e8 e9 e10 e11 GG
      have hWF' := hWF
      unfold s12 at hWF'
      try dsimp only [pz] at hWF' e0 e1 e2 e3 e4 e5 e6 e7 e8 e9 e10 e11
      rw [← hWF']
      clear hWF hWF'
      refine bodyPost_ret (by simp [results, Try.results53, go_sem, e0, e1, e2, e3, e4, e5, e6, e7, e8, e9, e10, e11]; rfl) rfl ?_
      exact ⟨false, pz, rfl, HE, GG⟩
set_option maxHeartbeats 8000000 in
theorem sp_after {v : Value} {g n : Nat} {F : Nat → Pv} (T tt : Int) (w : World) (ha : OwnP w v g n F) (tb : Tb n F) : Calls Try.prog 26 #[.agg #[v, .int .i64 T], .int .i64 tt] w fun e w' => ∃ b p, e = .returned (fov b p) ∧ AfT n F T tt b p ∧ Kq w w' := by
  obtain ⟨pa, ca, rfl, ha2⟩ := ha.sl
  obtain ⟨w2, hw2⟩ : ∃ w2, w2 = (w.alloc (.cells #[.slice pa n ca, .int .i64 T] 40)).alloc (.cells #[.bool false, .int .i64 0, .int .i64 0, .float .f64 0, .string ⟨#[]⟩, .int .i64 0, .int .i64 0, .int .i64 0, .float .f64 0, .string ⟨#[]⟩, .int .i64 0, .int .i64 0] 53) := ⟨_, rfl⟩
  obtain ⟨x0, x1, z2, k2⟩ := two_new w _ _ _ _ w2 hw2
  have rf2 : Rf w2 (w.heap.size + 1) := by
    have h := Rf.new (w.alloc (.cells #[.slice pa n ca, .int .i64 T] 40)) 53
    rw [World.size_alloc] at h
    rw [hw2]; exact h
  have HO : Hid (Calls Try.prog 15 #[.agg #[.slice pa n ca, .int .i64 T]] w2 fun e w' => e = .returned (.bool (dc (tok n F T))) ∧ Kq w2 w') := sp_tableok T w2 (ha.kq k2) tb
  have HA : Hid (tok n F T → ∀ W, Kq w2 W → Calls Try.prog 53 #[.agg #[.slice pa n ca, .int .i64 T], .int .i64 tt] W fun e w' => ∃ b p, e = .returned (fov b p) ∧ Af n F tt b p ∧ Kq W w') := (fun ht W q => sp_after0 T tt W ((ha.kq k2).kq q) tb (tok_asc ht) : tok n F T → ∀ W, _)
  have HX : Hid (Kq w w2 ∧ Rf w2 (w.heap.size + 1) ∧ w2.heap[w.heap.size]? = some (.cells #[.slice pa n ca, .int .i64 T] 40 (0, 0))) := (⟨k2, rf2, x0⟩ : _ ∧ _ ∧ _)
  clear x0 x1 z2 k2 rf2 ha2 ha tb
  have hst : ∀ (a : Addr) (n : Nat) (m : Mode) (w : World), (store a (.float .f64 n) m).run Try.prog w = stored Try.prog w a (.float .f64 n) m := fun a n m w => run_store _ _ _ _ _ rfl
  unfold fov
  go_enter Try.func26, Try.ntmps26
  go_wp2_with fail
  rw [← hw2]
  clear hw2
  refine (show Calls Try.prog 15 #[.agg #[.slice pa n ca, .int .i64 T]] w2 _ from HO).mono ?_
  rintro e w3 ⟨rfl, k3⟩
  have hX := (show Kq w w2 ∧ Rf w2 (w.heap.size + 1) ∧ w2.heap[w.heap.size]? = some (.cells #[.slice pa n ca, .int .i64 T] 40 (0, 0)) from HX)
  by_cases ht : tok n F T
  case neg =>
    rw [dc_f ht]
    have GK : Hid (Kq w w3) := hX.1.trans k3
    have RF : Hid (Rf w3 (w.heap.size + 1)) := hX.2.1.kq k3
    have HE : Hid (AfT n F T tt false pz) := (.inl ⟨ht, rfl, rfl⟩ : AfT n F T tt false pz)
    obtain ⟨u0, u1, u2, u3, u4, u5, u6, u7, u8, u9, u10, u11, uz⟩ := (show Rf w3 (w.heap.size + 1) from RF)
    clear hX HX HO HA ht k3
    go_wp2_with fail
    obtain ⟨e0, e1, e2, e3, e4, e5, e6, e7, e8, e9, e10, e11⟩ := s12_fc (show Rf w3 (w.heap.size + 1) from RF) false pz
    have GG : Hid (Kq w (s12 w3 (w.heap.size + 1) false pz)) := s12_kq GK (by omega) false pz
    obtain ⟨WF, hWF⟩ : ∃ WF, WF = s12 w3 (w.heap.size + 1) false pz := ⟨_, rfl⟩
    rw [← hWF] at e0 e1 e2 e3 e4 e5 e6 e7 e8 e9 e10 e11 GG
    have hWF' := hWF
    unfold s12 at hWF'
    try dsimp only [pz] at hWF' e0 e1 e2 e3 e4 e5 e6 e7 e8 e9 e10 e11
    rw [← hWF']
    clear hWF hWF'
    refine bodyPost_ret (by simp [results, Try.results26, go_sem, e0, e1, e2, e3, e4, e5, e6, e7, e8, e9, e10, e11]; rfl) rfl ?_
    exact ⟨false, pz, rfl, HE, GG⟩
  rw [dc_t ht]
  have b0 := k3.cell (cell_of hX.2.2 (j := 0) rfl)
  have b1 := k3.cell (cell_of hX.2.2 (j := 1) rfl)
  have HA2 : Hid (Calls Try.prog 53 #[.agg #[.slice pa n ca, .int .i64 T], .int .i64 tt] w3 fun e w' => ∃ b p, e = .returned (fov b p) ∧ Af n F tt b p ∧ Kq w3 w') := (show tok n F T → ∀ W, Kq w2 W → _ from HA) ht w3 k3
  have HT : Hid (tok n F T) := ht
  have HK3 : Hid (Kq w2 w3) := k3
  clear hX HA ht k3 HO
  go_wp2_with fail
  refine (show Calls Try.prog 53 #[.agg #[.slice pa n ca, .int .i64 T], .int .i64 tt] w3 _ from HA2).mono ?_
  rintro e w4 ⟨b, p, rfl, haf, k4⟩
  have hX := (show Kq w w2 ∧ Rf w2 (w.heap.size + 1) ∧ _ from HX)
  have GK : Hid (Kq w w4) := hX.1.trans (Kq.trans HK3 k4)
  have RF : Hid (Rf w4 (w.heap.size + 1)) := hX.2.1.kq (Kq.trans HK3 k4)
  have HE : Hid (AfT n F T tt b p) := (.inr ⟨HT, haf⟩ : AfT n F T tt b p)
  obtain ⟨u0, u1, u2, u3, u4, u5, u6, u7, u8, u9, u10, u11, uz⟩ := (show Rf w4 (w.heap.size + 1) from RF)
  clear hX HX HA2 HK3 HT haf k4 b0 b1
  unfold fov
  obtain ⟨⟨k, m, gg, x, r⟩, ⟨k2, m2, g2, x2, r2⟩, t⟩ := p
  dsimp only
  go_wp2_with fail
  obtain ⟨e0, e1, e2, e3, e4, e5, e6, e7, e8, e9, e10, e11⟩ := s12_fc (show Rf w4 (w.heap.size + 1) from RF) b ⟨⟨k, m, gg, x, r⟩, ⟨k2, m2, g2, x2, r2⟩, t⟩
  have GG : Hid (Kq w (s12 w4 (w.heap.size + 1) b ⟨⟨k, m, gg, x, r⟩, ⟨k2, m2, g2, x2, r2⟩, t⟩)) := s12_kq GK (by omega) b ⟨⟨k, m, gg, x, r⟩, ⟨k2, m2, g2, x2, r2⟩, t⟩
  obtain ⟨WF, hWF⟩ : ∃ WF, WF = s12 w4 (w.heap.size + 1) b ⟨⟨k, m, gg, x, r⟩, ⟨k2, m2, g2, x2, r2⟩, t⟩ := ⟨_, rfl⟩
  rw [← hWF] at e0 e1 e2 e3 e4 e5 e6 e7 e8 e9 e10 e11 GG
  have hWF' := hWF
  unfold s12 at hWF'
  try dsimp only [pz] at hWF' e0 e1 e2 e3 e4 e5 e6 e7 e8 e9 e10 e11
  rw [← hWF']
  clear hWF hWF'
  refine bodyPost_ret (by simp [results, Try.results26, go_sem, e0, e1, e2, e3, e4, e5, e6, e7, e8, e9, e10, e11]; rfl) rfl ?_
  exact ⟨b, ⟨⟨k, m, gg, x, r⟩, ⟨k2, m2, g2, x2, r2⟩, t⟩, rfl, HE, GG⟩
end Go.Proofs.Ytfpidccjcemcjaa
