import Derived.Test.YtjggnnmnegcpjaaGreatDoorMSkxb
namespace Go.Proofs.YtjggnnmnegcpjaaGreatDoor.Fo
open Go.ChangeShapes Go.WideShapes Go.ChangeAt Go.RowKit
set_option linter.unusedVariables false
set_option maxRecDepth 100000 in
set_option maxHeartbeats 8000000 in
theorem xp_21 {nm : ByteArray → Prop} {w : World} {v : Value} {n : Nat} {F : Nat → Gv} {vn vk : Value} {p : Nat} {A : Nat → ByteArray} {q : Nat} {K : Nat → Int} (s : Sx nm w v n F vn vk p A q K) (a : Fv) (hk : a.k = 21) :
    Calls Tryz.prog 79 #[.agg #[v], fmv a vn vk] w fun e w' => e = .returned (.bool (dc (q = 0 ∧ br a p false false false false))) ∧ Below w.heap.size w w' := by
  have hs := s.sy a 31 58
  obtain ⟨W2, hW2⟩ : ∃ W2, W2 = (w.alloc (.cells #[v] 31)).alloc (.cells #[.int .i64 a.k, .int .i64 a.f, .int .i64 a.t, .int .i64 a.l, .int .i64 a.o, .int .i64 a.m, .string a.x, vn, vk] 58) := ⟨_, rfl⟩
  rw [← hW2] at hs
  have HBL : Hid (∀ W, Below W2.heap.size W2 W → Below w.heap.size w W) := (fun W hb => by rw [hW2] at hb; exact (bel2 w _ _).trans (hb.mono (bel2 w _ _).size) : ∀ W, _)
  have HSY : Hid (Sy nm W2 w.heap.size v n F a vn vk p A q K) := hs
  have hqI : (q : Int) ≤ 1048576 := by have := s.hq; omega
  obtain ⟨pn, cn, rfl, _⟩ := s.rn
  obtain ⟨pk, ck, rfl, _⟩ := s.rk
  obtain ⟨pf, cf, rfl, _⟩ := s.rf
  have HSQ : Hid (q ≤ 1048576) := s.hq
  obtain ⟨R, hR⟩ : ∃ R, R = dc (q = 0 ∧ br a p false false false false) := ⟨_, rfl⟩
  have HR : Hid (R = dc (q = 0 ∧ br a p false false false false)) := hR
  rw [← hR]
  clear hs s hR
  obtain ⟨k, f, t, l, o, m, x⟩ := a
  dsimp only at hk
  subst hk
  by_cases hq0 : q = 0
  · subst hq0
    go_enter Tryz.func79, Tryz.ntmps79
    unfold fmv
    dsimp only at hW2
    go_wp2_with fail
    rw [← hW2]
    clear hW2
    have B0 : Below W2.heap.size W2 W2 := Below.refl _ _
    obtain ⟨c0, c1, c2, c3, c4, c5, c6, c7, c8⟩ := (show Sy nm W2 w.heap.size _ n F _ _ _ p A _ K from HSY).bx
    have ct := (show Sy nm W2 w.heap.size _ n F _ _ _ p A _ K from HSY).ct
    dsimp only at c0 c1 c2 c3 c4 c5 c6
    go_wp2_with fail
    refine ((show Sy nm W2 w.heap.size _ n F _ _ _ p A _ K from HSY).bare false false false false _ B0).mono ?_
    rintro e w1 ⟨rfl, B1⟩
    clear c0 c1 c2 c3 c4 c5 c6 c7 c8 ct
    obtain ⟨c0, c1, c2, c3, c4, c5, c6, c7, c8⟩ := (show Sy nm W2 w.heap.size _ n F _ _ _ p A _ K from HSY).bx.below B1
    have ct := (B1.cell (p := ⟨w.heap.size, 0, none⟩) (lt_of_cell (show Sy nm W2 w.heap.size _ n F _ _ _ p A _ K from HSY).ct)).trans (show Sy nm W2 w.heap.size _ n F _ _ _ p A _ K from HSY).ct
    dsimp only at c0 c1 c2 c3 c4 c5 c6
    by_cases h1 : br ⟨21, f, t, l, o, m, x⟩ p false false false false
    · rw [dc_t h1]
      have HH1 : Hid (br ⟨21, f, t, l, o, m, x⟩ p false false false false) := h1
      clear h1
      go_wp2_with fail
      go_ret
      exact ⟨by rw [show R = _ from HR, dc_t ⟨(by first | rfl | trivial), HH1⟩]; first | rfl | (simp [*]; done), (show ∀ W, Below W2.heap.size W2 W → Below w.heap.size w W from HBL) _ B1⟩
    · rw [dc_f h1]
      have HN9 : Hid (Nt (br ⟨21, f, t, l, o, m, x⟩ p false false false false)) := h1
      clear h1
      go_wp2_with fail
      go_ret
      exact ⟨by rw [show R = _ from HR, dc_f (fun g => HN9 g.2)]; first | rfl | (simp [*]; done), (show ∀ W, Below W2.heap.size W2 W → Below w.heap.size w W from HBL) _ B1⟩
  · have e0 : ((q : Int) == 0) = false := bne (by omega)
    have HN9 : Hid (Nt (q = 0)) := hq0
    clear hq0
    go_enter Tryz.func79, Tryz.ntmps79
    unfold fmv
    dsimp only at hW2
    go_wp2_with fail
    go_ret
    exact ⟨by rw [show R = _ from HR, dc_f (fun g => HN9 g.1)]; rfl, bel2 _ _ _⟩
set_option maxRecDepth 100000 in
set_option maxHeartbeats 8000000 in
theorem xp_22 {nm : ByteArray → Prop} {w : World} {v : Value} {n : Nat} {F : Nat → Gv} {vn vk : Value} {p : Nat} {A : Nat → ByteArray} {q : Nat} {K : Nat → Int} (s : Sx nm w v n F vn vk p A q K) (a : Fv) (hk : a.k = 22) :
    Calls Tryz.prog 79 #[.agg #[v], fmv a vn vk] w fun e w' => e = .returned (.bool (dc (q = 0 ∧ br a p false false false false))) ∧ Below w.heap.size w w' := by
  have hs := s.sy a 31 58
  obtain ⟨W2, hW2⟩ : ∃ W2, W2 = (w.alloc (.cells #[v] 31)).alloc (.cells #[.int .i64 a.k, .int .i64 a.f, .int .i64 a.t, .int .i64 a.l, .int .i64 a.o, .int .i64 a.m, .string a.x, vn, vk] 58) := ⟨_, rfl⟩
  rw [← hW2] at hs
  have HBL : Hid (∀ W, Below W2.heap.size W2 W → Below w.heap.size w W) := (fun W hb => by rw [hW2] at hb; exact (bel2 w _ _).trans (hb.mono (bel2 w _ _).size) : ∀ W, _)
  have HSY : Hid (Sy nm W2 w.heap.size v n F a vn vk p A q K) := hs
  have hqI : (q : Int) ≤ 1048576 := by have := s.hq; omega
  obtain ⟨pn, cn, rfl, _⟩ := s.rn
  obtain ⟨pk, ck, rfl, _⟩ := s.rk
  obtain ⟨pf, cf, rfl, _⟩ := s.rf
  have HSQ : Hid (q ≤ 1048576) := s.hq
  obtain ⟨R, hR⟩ : ∃ R, R = dc (q = 0 ∧ br a p false false false false) := ⟨_, rfl⟩
  have HR : Hid (R = dc (q = 0 ∧ br a p false false false false)) := hR
  rw [← hR]
  clear hs s hR
  obtain ⟨k, f, t, l, o, m, x⟩ := a
  dsimp only at hk
  subst hk
  by_cases hq0 : q = 0
  · subst hq0
    go_enter Tryz.func79, Tryz.ntmps79
    unfold fmv
    dsimp only at hW2
    go_wp2_with fail
    rw [← hW2]
    clear hW2
    have B0 : Below W2.heap.size W2 W2 := Below.refl _ _
    obtain ⟨c0, c1, c2, c3, c4, c5, c6, c7, c8⟩ := (show Sy nm W2 w.heap.size _ n F _ _ _ p A _ K from HSY).bx
    have ct := (show Sy nm W2 w.heap.size _ n F _ _ _ p A _ K from HSY).ct
    dsimp only at c0 c1 c2 c3 c4 c5 c6
    go_wp2_with fail
    refine ((show Sy nm W2 w.heap.size _ n F _ _ _ p A _ K from HSY).bare false false false false _ B0).mono ?_
    rintro e w1 ⟨rfl, B1⟩
    clear c0 c1 c2 c3 c4 c5 c6 c7 c8 ct
    obtain ⟨c0, c1, c2, c3, c4, c5, c6, c7, c8⟩ := (show Sy nm W2 w.heap.size _ n F _ _ _ p A _ K from HSY).bx.below B1
    have ct := (B1.cell (p := ⟨w.heap.size, 0, none⟩) (lt_of_cell (show Sy nm W2 w.heap.size _ n F _ _ _ p A _ K from HSY).ct)).trans (show Sy nm W2 w.heap.size _ n F _ _ _ p A _ K from HSY).ct
    dsimp only at c0 c1 c2 c3 c4 c5 c6
    by_cases h1 : br ⟨22, f, t, l, o, m, x⟩ p false false false false
    · rw [dc_t h1]
      have HH1 : Hid (br ⟨22, f, t, l, o, m, x⟩ p false false false false) := h1
      clear h1
      go_wp2_with fail
      go_ret
      exact ⟨by rw [show R = _ from HR, dc_t ⟨(by first | rfl | trivial), HH1⟩]; first | rfl | (simp [*]; done), (show ∀ W, Below W2.heap.size W2 W → Below w.heap.size w W from HBL) _ B1⟩
    · rw [dc_f h1]
      have HN9 : Hid (Nt (br ⟨22, f, t, l, o, m, x⟩ p false false false false)) := h1
      clear h1
      go_wp2_with fail
      go_ret
      exact ⟨by rw [show R = _ from HR, dc_f (fun g => HN9 g.2)]; first | rfl | (simp [*]; done), (show ∀ W, Below W2.heap.size W2 W → Below w.heap.size w W from HBL) _ B1⟩
  · have e0 : ((q : Int) == 0) = false := bne (by omega)
    have HN9 : Hid (Nt (q = 0)) := hq0
    clear hq0
    go_enter Tryz.func79, Tryz.ntmps79
    unfold fmv
    dsimp only at hW2
    go_wp2_with fail
    go_ret
    exact ⟨by rw [show R = _ from HR, dc_f (fun g => HN9 g.1)]; rfl, bel2 _ _ _⟩
set_option maxRecDepth 100000 in
set_option maxHeartbeats 8000000 in
theorem xp_27 {nm : ByteArray → Prop} {w : World} {v : Value} {n : Nat} {F : Nat → Gv} {vn vk : Value} {p : Nat} {A : Nat → ByteArray} {q : Nat} {K : Nat → Int} (s : Sx nm w v n F vn vk p A q K) (a : Fv) (hk : a.k = 27) :
    Calls Tryz.prog 79 #[.agg #[v], fmv a vn vk] w fun e w' => e = .returned (.bool (dc (q = 0 ∧ br a p false false false false))) ∧ Below w.heap.size w w' := by
  have hs := s.sy a 31 58
  obtain ⟨W2, hW2⟩ : ∃ W2, W2 = (w.alloc (.cells #[v] 31)).alloc (.cells #[.int .i64 a.k, .int .i64 a.f, .int .i64 a.t, .int .i64 a.l, .int .i64 a.o, .int .i64 a.m, .string a.x, vn, vk] 58) := ⟨_, rfl⟩
  rw [← hW2] at hs
  have HBL : Hid (∀ W, Below W2.heap.size W2 W → Below w.heap.size w W) := (fun W hb => by rw [hW2] at hb; exact (bel2 w _ _).trans (hb.mono (bel2 w _ _).size) : ∀ W, _)
  have HSY : Hid (Sy nm W2 w.heap.size v n F a vn vk p A q K) := hs
  have hqI : (q : Int) ≤ 1048576 := by have := s.hq; omega
  obtain ⟨pn, cn, rfl, _⟩ := s.rn
  obtain ⟨pk, ck, rfl, _⟩ := s.rk
  obtain ⟨pf, cf, rfl, _⟩ := s.rf
  have HSQ : Hid (q ≤ 1048576) := s.hq
  obtain ⟨R, hR⟩ : ∃ R, R = dc (q = 0 ∧ br a p false false false false) := ⟨_, rfl⟩
  have HR : Hid (R = dc (q = 0 ∧ br a p false false false false)) := hR
  rw [← hR]
  clear hs s hR
  obtain ⟨k, f, t, l, o, m, x⟩ := a
  dsimp only at hk
  subst hk
  by_cases hq0 : q = 0
  · subst hq0
    go_enter Tryz.func79, Tryz.ntmps79
    unfold fmv
    dsimp only at hW2
    go_wp2_with fail
    rw [← hW2]
    clear hW2
    have B0 : Below W2.heap.size W2 W2 := Below.refl _ _
    obtain ⟨c0, c1, c2, c3, c4, c5, c6, c7, c8⟩ := (show Sy nm W2 w.heap.size _ n F _ _ _ p A _ K from HSY).bx
    have ct := (show Sy nm W2 w.heap.size _ n F _ _ _ p A _ K from HSY).ct
    dsimp only at c0 c1 c2 c3 c4 c5 c6
    go_wp2_with fail
    refine ((show Sy nm W2 w.heap.size _ n F _ _ _ p A _ K from HSY).bare false false false false _ B0).mono ?_
    rintro e w1 ⟨rfl, B1⟩
    clear c0 c1 c2 c3 c4 c5 c6 c7 c8 ct
    obtain ⟨c0, c1, c2, c3, c4, c5, c6, c7, c8⟩ := (show Sy nm W2 w.heap.size _ n F _ _ _ p A _ K from HSY).bx.below B1
    have ct := (B1.cell (p := ⟨w.heap.size, 0, none⟩) (lt_of_cell (show Sy nm W2 w.heap.size _ n F _ _ _ p A _ K from HSY).ct)).trans (show Sy nm W2 w.heap.size _ n F _ _ _ p A _ K from HSY).ct
    dsimp only at c0 c1 c2 c3 c4 c5 c6
    by_cases h1 : br ⟨27, f, t, l, o, m, x⟩ p false false false false
    · rw [dc_t h1]
      have HH1 : Hid (br ⟨27, f, t, l, o, m, x⟩ p false false false false) := h1
      clear h1
      go_wp2_with fail
      go_ret
      exact ⟨by rw [show R = _ from HR, dc_t ⟨(by first | rfl | trivial), HH1⟩]; first | rfl | (simp [*]; done), (show ∀ W, Below W2.heap.size W2 W → Below w.heap.size w W from HBL) _ B1⟩
    · rw [dc_f h1]
      have HN9 : Hid (Nt (br ⟨27, f, t, l, o, m, x⟩ p false false false false)) := h1
      clear h1
      go_wp2_with fail
      go_ret
      exact ⟨by rw [show R = _ from HR, dc_f (fun g => HN9 g.2)]; first | rfl | (simp [*]; done), (show ∀ W, Below W2.heap.size W2 W → Below w.heap.size w W from HBL) _ B1⟩
  · have e0 : ((q : Int) == 0) = false := bne (by omega)
    have HN9 : Hid (Nt (q = 0)) := hq0
    clear hq0
    go_enter Tryz.func79, Tryz.ntmps79
    unfold fmv
    dsimp only at hW2
    go_wp2_with fail
    go_ret
    exact ⟨by rw [show R = _ from HR, dc_f (fun g => HN9 g.1)]; rfl, bel2 _ _ _⟩
set_option maxRecDepth 100000 in
set_option maxHeartbeats 8000000 in
theorem xp_29 {nm : ByteArray → Prop} {w : World} {v : Value} {n : Nat} {F : Nat → Gv} {vn vk : Value} {p : Nat} {A : Nat → ByteArray} {q : Nat} {K : Nat → Int} (s : Sx nm w v n F vn vk p A q K) (a : Fv) (hk : a.k = 29) :
    Calls Tryz.prog 79 #[.agg #[v], fmv a vn vk] w fun e w' => e = .returned (.bool (dc (q = 2 ∧ ex F K 0 2 ∧ br a p false false false false))) ∧ Below w.heap.size w w' := by
  have hs := s.sy a 31 58
  obtain ⟨W2, hW2⟩ : ∃ W2, W2 = (w.alloc (.cells #[v] 31)).alloc (.cells #[.int .i64 a.k, .int .i64 a.f, .int .i64 a.t, .int .i64 a.l, .int .i64 a.o, .int .i64 a.m, .string a.x, vn, vk] 58) := ⟨_, rfl⟩
  rw [← hW2] at hs
  have HBL : Hid (∀ W, Below W2.heap.size W2 W → Below w.heap.size w W) := (fun W hb => by rw [hW2] at hb; exact (bel2 w _ _).trans (hb.mono (bel2 w _ _).size) : ∀ W, _)
  have HSY : Hid (Sy nm W2 w.heap.size v n F a vn vk p A q K) := hs
  have hqI : (q : Int) ≤ 1048576 := by have := s.hq; omega
  obtain ⟨pn, cn, rfl, _⟩ := s.rn
  obtain ⟨pk, ck, rfl, _⟩ := s.rk
  obtain ⟨pf, cf, rfl, _⟩ := s.rf
  have HSQ : Hid (q ≤ 1048576) := s.hq
  obtain ⟨R, hR⟩ : ∃ R, R = dc (q = 2 ∧ ex F K 0 2 ∧ br a p false false false false) := ⟨_, rfl⟩
  have HR : Hid (R = dc (q = 2 ∧ ex F K 0 2 ∧ br a p false false false false)) := hR
  rw [← hR]
  clear hs s hR
  obtain ⟨k, f, t, l, o, m, x⟩ := a
  dsimp only at hk
  subst hk
  by_cases hq0 : q = 2
  · subst hq0
    go_enter Tryz.func79, Tryz.ntmps79
    unfold fmv
    dsimp only at hW2
    go_wp2_with fail
    rw [← hW2]
    clear hW2
    have B0 : Below W2.heap.size W2 W2 := Below.refl _ _
    obtain ⟨c0, c1, c2, c3, c4, c5, c6, c7, c8⟩ := (show Sy nm W2 w.heap.size _ n F _ _ _ p A _ K from HSY).bx
    have ct := (show Sy nm W2 w.heap.size _ n F _ _ _ p A _ K from HSY).ct
    dsimp only at c0 c1 c2 c3 c4 c5 c6
    go_wp2_with fail
    refine ((show Sy nm W2 w.heap.size _ n F _ _ _ p A _ K from HSY).exprs _ _ 0 2 rfl (by first | rfl | omega) (by omega) (by omega) _ B0).mono ?_
    rintro e w1 ⟨rfl, B1⟩
    clear c0 c1 c2 c3 c4 c5 c6 c7 c8 ct
    obtain ⟨c0, c1, c2, c3, c4, c5, c6, c7, c8⟩ := (show Sy nm W2 w.heap.size _ n F _ _ _ p A _ K from HSY).bx.below B1
    have ct := (B1.cell (p := ⟨w.heap.size, 0, none⟩) (lt_of_cell (show Sy nm W2 w.heap.size _ n F _ _ _ p A _ K from HSY).ct)).trans (show Sy nm W2 w.heap.size _ n F _ _ _ p A _ K from HSY).ct
    dsimp only at c0 c1 c2 c3 c4 c5 c6
    by_cases h1 : ex F K 0 2
    · rw [dc_t h1]
      have HH1 : Hid (ex F K 0 2) := h1
      clear h1
      go_wp2_with fail
      refine ((show Sy nm W2 w.heap.size _ n F _ _ _ p A _ K from HSY).bare false false false false _ B1).mono ?_
      rintro e w2 ⟨rfl, B2⟩
      clear c0 c1 c2 c3 c4 c5 c6 c7 c8 ct
      obtain ⟨c0, c1, c2, c3, c4, c5, c6, c7, c8⟩ := (show Sy nm W2 w.heap.size _ n F _ _ _ p A _ K from HSY).bx.below B2
      have ct := (B2.cell (p := ⟨w.heap.size, 0, none⟩) (lt_of_cell (show Sy nm W2 w.heap.size _ n F _ _ _ p A _ K from HSY).ct)).trans (show Sy nm W2 w.heap.size _ n F _ _ _ p A _ K from HSY).ct
      dsimp only at c0 c1 c2 c3 c4 c5 c6
      by_cases h2 : br ⟨29, f, t, l, o, m, x⟩ p false false false false
      · rw [dc_t h2]
        have HH2 : Hid (br ⟨29, f, t, l, o, m, x⟩ p false false false false) := h2
        clear h2
        go_wp2_with fail
        go_ret
        exact ⟨by rw [show R = _ from HR, dc_t ⟨(by first | rfl | trivial), HH1, HH2⟩]; first | rfl | (simp [*]; done), (show ∀ W, Below W2.heap.size W2 W → Below w.heap.size w W from HBL) _ B2⟩
      · rw [dc_f h2]
        have HN9 : Hid (Nt (br ⟨29, f, t, l, o, m, x⟩ p false false false false)) := h2
        clear h2
        go_wp2_with fail
        go_ret
        exact ⟨by rw [show R = _ from HR, dc_f (fun g => HN9 g.2.2)]; first | rfl | (simp [*]; done), (show ∀ W, Below W2.heap.size W2 W → Below w.heap.size w W from HBL) _ B2⟩
    · rw [dc_f h1]
      have HN9 : Hid (Nt (ex F K 0 2)) := h1
      clear h1
      go_wp2_with fail
      go_ret
      exact ⟨by rw [show R = _ from HR, dc_f (fun g => HN9 g.2.1)]; first | rfl | (simp [*]; done), (show ∀ W, Below W2.heap.size W2 W → Below w.heap.size w W from HBL) _ B1⟩
  · have e0 : ((q : Int) == 2) = false := bne (by omega)
    have HN9 : Hid (Nt (q = 2)) := hq0
    clear hq0
    go_enter Tryz.func79, Tryz.ntmps79
    unfold fmv
    dsimp only at hW2
    go_wp2_with fail
    go_ret
    exact ⟨by rw [show R = _ from HR, dc_f (fun g => HN9 g.1)]; rfl, bel2 _ _ _⟩
set_option maxRecDepth 100000 in
set_option maxHeartbeats 8000000 in
theorem xp_40 {nm : ByteArray → Prop} {w : World} {v : Value} {n : Nat} {F : Nat → Gv} {vn vk : Value} {p : Nat} {A : Nat → ByteArray} {q : Nat} {K : Nat → Int} (s : Sx nm w v n F vn vk p A q K) (a : Fv) (hk : a.k = 40) :
    Calls Tryz.prog 79 #[.agg #[v], fmv a vn vk] w fun e w' => e = .returned (.bool (dc (q = 1 ∧ ex F K 0 1 ∧ br a p false false false false))) ∧ Below w.heap.size w w' := by
  have hs := s.sy a 31 58
  obtain ⟨W2, hW2⟩ : ∃ W2, W2 = (w.alloc (.cells #[v] 31)).alloc (.cells #[.int .i64 a.k, .int .i64 a.f, .int .i64 a.t, .int .i64 a.l, .int .i64 a.o, .int .i64 a.m, .string a.x, vn, vk] 58) := ⟨_, rfl⟩
  rw [← hW2] at hs
  have HBL : Hid (∀ W, Below W2.heap.size W2 W → Below w.heap.size w W) := (fun W hb => by rw [hW2] at hb; exact (bel2 w _ _).trans (hb.mono (bel2 w _ _).size) : ∀ W, _)
  have HSY : Hid (Sy nm W2 w.heap.size v n F a vn vk p A q K) := hs
  have hqI : (q : Int) ≤ 1048576 := by have := s.hq; omega
  obtain ⟨pn, cn, rfl, _⟩ := s.rn
  obtain ⟨pk, ck, rfl, _⟩ := s.rk
  obtain ⟨pf, cf, rfl, _⟩ := s.rf
  have HSQ : Hid (q ≤ 1048576) := s.hq
  obtain ⟨R, hR⟩ : ∃ R, R = dc (q = 1 ∧ ex F K 0 1 ∧ br a p false false false false) := ⟨_, rfl⟩
  have HR : Hid (R = dc (q = 1 ∧ ex F K 0 1 ∧ br a p false false false false)) := hR
  rw [← hR]
  clear hs s hR
  obtain ⟨k, f, t, l, o, m, x⟩ := a
  dsimp only at hk
  subst hk
  by_cases hq0 : q = 1
  · subst hq0
    go_enter Tryz.func79, Tryz.ntmps79
    unfold fmv
    dsimp only at hW2
    go_wp2_with fail
    rw [← hW2]
    clear hW2
    have B0 : Below W2.heap.size W2 W2 := Below.refl _ _
    obtain ⟨c0, c1, c2, c3, c4, c5, c6, c7, c8⟩ := (show Sy nm W2 w.heap.size _ n F _ _ _ p A _ K from HSY).bx
    have ct := (show Sy nm W2 w.heap.size _ n F _ _ _ p A _ K from HSY).ct
    dsimp only at c0 c1 c2 c3 c4 c5 c6
    go_wp2_with fail
    refine ((show Sy nm W2 w.heap.size _ n F _ _ _ p A _ K from HSY).exprs _ _ 0 1 rfl (by first | rfl | omega) (by omega) (by omega) _ B0).mono ?_
    rintro e w1 ⟨rfl, B1⟩
    clear c0 c1 c2 c3 c4 c5 c6 c7 c8 ct
    obtain ⟨c0, c1, c2, c3, c4, c5, c6, c7, c8⟩ := (show Sy nm W2 w.heap.size _ n F _ _ _ p A _ K from HSY).bx.below B1
    have ct := (B1.cell (p := ⟨w.heap.size, 0, none⟩) (lt_of_cell (show Sy nm W2 w.heap.size _ n F _ _ _ p A _ K from HSY).ct)).trans (show Sy nm W2 w.heap.size _ n F _ _ _ p A _ K from HSY).ct
    dsimp only at c0 c1 c2 c3 c4 c5 c6
    by_cases h1 : ex F K 0 1
    · rw [dc_t h1]
      have HH1 : Hid (ex F K 0 1) := h1
      clear h1
      go_wp2_with fail
      refine ((show Sy nm W2 w.heap.size _ n F _ _ _ p A _ K from HSY).bare false false false false _ B1).mono ?_
      rintro e w2 ⟨rfl, B2⟩
      clear c0 c1 c2 c3 c4 c5 c6 c7 c8 ct
      obtain ⟨c0, c1, c2, c3, c4, c5, c6, c7, c8⟩ := (show Sy nm W2 w.heap.size _ n F _ _ _ p A _ K from HSY).bx.below B2
      have ct := (B2.cell (p := ⟨w.heap.size, 0, none⟩) (lt_of_cell (show Sy nm W2 w.heap.size _ n F _ _ _ p A _ K from HSY).ct)).trans (show Sy nm W2 w.heap.size _ n F _ _ _ p A _ K from HSY).ct
      dsimp only at c0 c1 c2 c3 c4 c5 c6
      by_cases h2 : br ⟨40, f, t, l, o, m, x⟩ p false false false false
      · rw [dc_t h2]
        have HH2 : Hid (br ⟨40, f, t, l, o, m, x⟩ p false false false false) := h2
        clear h2
        go_wp2_with fail
        go_ret
        exact ⟨by rw [show R = _ from HR, dc_t ⟨(by first | rfl | trivial), HH1, HH2⟩]; first | rfl | (simp [*]; done), (show ∀ W, Below W2.heap.size W2 W → Below w.heap.size w W from HBL) _ B2⟩
      · rw [dc_f h2]
        have HN9 : Hid (Nt (br ⟨40, f, t, l, o, m, x⟩ p false false false false)) := h2
        clear h2
        go_wp2_with fail
        go_ret
        exact ⟨by rw [show R = _ from HR, dc_f (fun g => HN9 g.2.2)]; first | rfl | (simp [*]; done), (show ∀ W, Below W2.heap.size W2 W → Below w.heap.size w W from HBL) _ B2⟩
    · rw [dc_f h1]
      have HN9 : Hid (Nt (ex F K 0 1)) := h1
      clear h1
      go_wp2_with fail
      go_ret
      exact ⟨by rw [show R = _ from HR, dc_f (fun g => HN9 g.2.1)]; first | rfl | (simp [*]; done), (show ∀ W, Below W2.heap.size W2 W → Below w.heap.size w W from HBL) _ B1⟩
  · have e0 : ((q : Int) == 1) = false := bne (by omega)
    have HN9 : Hid (Nt (q = 1)) := hq0
    clear hq0
    go_enter Tryz.func79, Tryz.ntmps79
    unfold fmv
    dsimp only at hW2
    go_wp2_with fail
    go_ret
    exact ⟨by rw [show R = _ from HR, dc_f (fun g => HN9 g.1)]; rfl, bel2 _ _ _⟩
set_option maxRecDepth 100000 in
set_option maxHeartbeats 8000000 in
theorem xp_41 {nm : ByteArray → Prop} {w : World} {v : Value} {n : Nat} {F : Nat → Gv} {vn vk : Value} {p : Nat} {A : Nat → ByteArray} {q : Nat} {K : Nat → Int} (s : Sx nm w v n F vn vk p A q K) (a : Fv) (hk : a.k = 41) :
    Calls Tryz.prog 79 #[.agg #[v], fmv a vn vk] w fun e w' => e = .returned (.bool (dc (q = 2 ∧ ex F K 0 2 ∧ br a p false false false false))) ∧ Below w.heap.size w w' := by
  have hs := s.sy a 31 58
  obtain ⟨W2, hW2⟩ : ∃ W2, W2 = (w.alloc (.cells #[v] 31)).alloc (.cells #[.int .i64 a.k, .int .i64 a.f, .int .i64 a.t, .int .i64 a.l, .int .i64 a.o, .int .i64 a.m, .string a.x, vn, vk] 58) := ⟨_, rfl⟩
  rw [← hW2] at hs
  have HBL : Hid (∀ W, Below W2.heap.size W2 W → Below w.heap.size w W) := (fun W hb => by rw [hW2] at hb; exact (bel2 w _ _).trans (hb.mono (bel2 w _ _).size) : ∀ W, _)
  have HSY : Hid (Sy nm W2 w.heap.size v n F a vn vk p A q K) := hs
  have hqI : (q : Int) ≤ 1048576 := by have := s.hq; omega
  obtain ⟨pn, cn, rfl, _⟩ := s.rn
  obtain ⟨pk, ck, rfl, _⟩ := s.rk
  obtain ⟨pf, cf, rfl, _⟩ := s.rf
  have HSQ : Hid (q ≤ 1048576) := s.hq
  obtain ⟨R, hR⟩ : ∃ R, R = dc (q = 2 ∧ ex F K 0 2 ∧ br a p false false false false) := ⟨_, rfl⟩
  have HR : Hid (R = dc (q = 2 ∧ ex F K 0 2 ∧ br a p false false false false)) := hR
  rw [← hR]
  clear hs s hR
  obtain ⟨k, f, t, l, o, m, x⟩ := a
  dsimp only at hk
  subst hk
  by_cases hq0 : q = 2
  · subst hq0
    go_enter Tryz.func79, Tryz.ntmps79
    unfold fmv
    dsimp only at hW2
    go_wp2_with fail
    rw [← hW2]
    clear hW2
    have B0 : Below W2.heap.size W2 W2 := Below.refl _ _
    obtain ⟨c0, c1, c2, c3, c4, c5, c6, c7, c8⟩ := (show Sy nm W2 w.heap.size _ n F _ _ _ p A _ K from HSY).bx
    have ct := (show Sy nm W2 w.heap.size _ n F _ _ _ p A _ K from HSY).ct
    dsimp only at c0 c1 c2 c3 c4 c5 c6
    go_wp2_with fail
    refine ((show Sy nm W2 w.heap.size _ n F _ _ _ p A _ K from HSY).exprs _ _ 0 2 rfl (by first | rfl | omega) (by omega) (by omega) _ B0).mono ?_
    rintro e w1 ⟨rfl, B1⟩
    clear c0 c1 c2 c3 c4 c5 c6 c7 c8 ct
    obtain ⟨c0, c1, c2, c3, c4, c5, c6, c7, c8⟩ := (show Sy nm W2 w.heap.size _ n F _ _ _ p A _ K from HSY).bx.below B1
    have ct := (B1.cell (p := ⟨w.heap.size, 0, none⟩) (lt_of_cell (show Sy nm W2 w.heap.size _ n F _ _ _ p A _ K from HSY).ct)).trans (show Sy nm W2 w.heap.size _ n F _ _ _ p A _ K from HSY).ct
    dsimp only at c0 c1 c2 c3 c4 c5 c6
    by_cases h1 : ex F K 0 2
    · rw [dc_t h1]
      have HH1 : Hid (ex F K 0 2) := h1
      clear h1
      go_wp2_with fail
      refine ((show Sy nm W2 w.heap.size _ n F _ _ _ p A _ K from HSY).bare false false false false _ B1).mono ?_
      rintro e w2 ⟨rfl, B2⟩
      clear c0 c1 c2 c3 c4 c5 c6 c7 c8 ct
      obtain ⟨c0, c1, c2, c3, c4, c5, c6, c7, c8⟩ := (show Sy nm W2 w.heap.size _ n F _ _ _ p A _ K from HSY).bx.below B2
      have ct := (B2.cell (p := ⟨w.heap.size, 0, none⟩) (lt_of_cell (show Sy nm W2 w.heap.size _ n F _ _ _ p A _ K from HSY).ct)).trans (show Sy nm W2 w.heap.size _ n F _ _ _ p A _ K from HSY).ct
      dsimp only at c0 c1 c2 c3 c4 c5 c6
      by_cases h2 : br ⟨41, f, t, l, o, m, x⟩ p false false false false
      · rw [dc_t h2]
        have HH2 : Hid (br ⟨41, f, t, l, o, m, x⟩ p false false false false) := h2
        clear h2
        go_wp2_with fail
        go_ret
        exact ⟨by rw [show R = _ from HR, dc_t ⟨(by first | rfl | trivial), HH1, HH2⟩]; first | rfl | (simp [*]; done), (show ∀ W, Below W2.heap.size W2 W → Below w.heap.size w W from HBL) _ B2⟩
      · rw [dc_f h2]
        have HN9 : Hid (Nt (br ⟨41, f, t, l, o, m, x⟩ p false false false false)) := h2
        clear h2
        go_wp2_with fail
        go_ret
        exact ⟨by rw [show R = _ from HR, dc_f (fun g => HN9 g.2.2)]; first | rfl | (simp [*]; done), (show ∀ W, Below W2.heap.size W2 W → Below w.heap.size w W from HBL) _ B2⟩
    · rw [dc_f h1]
      have HN9 : Hid (Nt (ex F K 0 2)) := h1
      clear h1
      go_wp2_with fail
      go_ret
      exact ⟨by rw [show R = _ from HR, dc_f (fun g => HN9 g.2.1)]; first | rfl | (simp [*]; done), (show ∀ W, Below W2.heap.size W2 W → Below w.heap.size w W from HBL) _ B1⟩
  · have e0 : ((q : Int) == 2) = false := bne (by omega)
    have HN9 : Hid (Nt (q = 2)) := hq0
    clear hq0
    go_enter Tryz.func79, Tryz.ntmps79
    unfold fmv
    dsimp only at hW2
    go_wp2_with fail
    go_ret
    exact ⟨by rw [show R = _ from HR, dc_f (fun g => HN9 g.1)]; rfl, bel2 _ _ _⟩
set_option maxRecDepth 100000 in
set_option maxHeartbeats 8000000 in
theorem xp_42 {nm : ByteArray → Prop} {w : World} {v : Value} {n : Nat} {F : Nat → Gv} {vn vk : Value} {p : Nat} {A : Nat → ByteArray} {q : Nat} {K : Nat → Int} (s : Sx nm w v n F vn vk p A q K) (a : Fv) (hk : a.k = 42) :
    Calls Tryz.prog 79 #[.agg #[v], fmv a vn vk] w fun e w' => e = .returned (.bool (dc (q = 1 ∧ ex F K 0 1 ∧ br a p false false true false ∧ nm a.x))) ∧ Below w.heap.size w w' := by
  have hs := s.sy a 31 58
  obtain ⟨W2, hW2⟩ : ∃ W2, W2 = (w.alloc (.cells #[v] 31)).alloc (.cells #[.int .i64 a.k, .int .i64 a.f, .int .i64 a.t, .int .i64 a.l, .int .i64 a.o, .int .i64 a.m, .string a.x, vn, vk] 58) := ⟨_, rfl⟩
  rw [← hW2] at hs
  have HBL : Hid (∀ W, Below W2.heap.size W2 W → Below w.heap.size w W) := (fun W hb => by rw [hW2] at hb; exact (bel2 w _ _).trans (hb.mono (bel2 w _ _).size) : ∀ W, _)
  have HSY : Hid (Sy nm W2 w.heap.size v n F a vn vk p A q K) := hs
  have hqI : (q : Int) ≤ 1048576 := by have := s.hq; omega
  obtain ⟨pn, cn, rfl, _⟩ := s.rn
  obtain ⟨pk, ck, rfl, _⟩ := s.rk
  obtain ⟨pf, cf, rfl, _⟩ := s.rf
  have HSQ : Hid (q ≤ 1048576) := s.hq
  obtain ⟨R, hR⟩ : ∃ R, R = dc (q = 1 ∧ ex F K 0 1 ∧ br a p false false true false ∧ nm a.x) := ⟨_, rfl⟩
  have HR : Hid (R = dc (q = 1 ∧ ex F K 0 1 ∧ br a p false false true false ∧ nm a.x)) := hR
  rw [← hR]
  clear hs s hR
  obtain ⟨k, f, t, l, o, m, x⟩ := a
  dsimp only at hk
  subst hk
  by_cases hq0 : q = 1
  · subst hq0
    go_enter Tryz.func79, Tryz.ntmps79
    unfold fmv
    dsimp only at hW2
    go_wp2_with fail
    rw [← hW2]
    clear hW2
    have B0 : Below W2.heap.size W2 W2 := Below.refl _ _
    obtain ⟨c0, c1, c2, c3, c4, c5, c6, c7, c8⟩ := (show Sy nm W2 w.heap.size _ n F _ _ _ p A _ K from HSY).bx
    have ct := (show Sy nm W2 w.heap.size _ n F _ _ _ p A _ K from HSY).ct
    dsimp only at c0 c1 c2 c3 c4 c5 c6
    go_wp2_with fail
    refine ((show Sy nm W2 w.heap.size _ n F _ _ _ p A _ K from HSY).exprs _ _ 0 1 rfl (by first | rfl | omega) (by omega) (by omega) _ B0).mono ?_
    rintro e w1 ⟨rfl, B1⟩
    clear c0 c1 c2 c3 c4 c5 c6 c7 c8 ct
    obtain ⟨c0, c1, c2, c3, c4, c5, c6, c7, c8⟩ := (show Sy nm W2 w.heap.size _ n F _ _ _ p A _ K from HSY).bx.below B1
    have ct := (B1.cell (p := ⟨w.heap.size, 0, none⟩) (lt_of_cell (show Sy nm W2 w.heap.size _ n F _ _ _ p A _ K from HSY).ct)).trans (show Sy nm W2 w.heap.size _ n F _ _ _ p A _ K from HSY).ct
    dsimp only at c0 c1 c2 c3 c4 c5 c6
    by_cases h1 : ex F K 0 1
    · rw [dc_t h1]
      have HH1 : Hid (ex F K 0 1) := h1
      clear h1
      go_wp2_with fail
      refine ((show Sy nm W2 w.heap.size _ n F _ _ _ p A _ K from HSY).bare false false true false _ B1).mono ?_
      rintro e w2 ⟨rfl, B2⟩
      clear c0 c1 c2 c3 c4 c5 c6 c7 c8 ct
      obtain ⟨c0, c1, c2, c3, c4, c5, c6, c7, c8⟩ := (show Sy nm W2 w.heap.size _ n F _ _ _ p A _ K from HSY).bx.below B2
      have ct := (B2.cell (p := ⟨w.heap.size, 0, none⟩) (lt_of_cell (show Sy nm W2 w.heap.size _ n F _ _ _ p A _ K from HSY).ct)).trans (show Sy nm W2 w.heap.size _ n F _ _ _ p A _ K from HSY).ct
      dsimp only at c0 c1 c2 c3 c4 c5 c6
      by_cases h2 : br ⟨42, f, t, l, o, m, x⟩ p false false true false
      · rw [dc_t h2]
        have HH2 : Hid (br ⟨42, f, t, l, o, m, x⟩ p false false true false) := h2
        clear h2
        go_wp2_with fail
        refine ((((show Sy nm W2 w.heap.size _ n F _ _ _ p A _ K from HSY).hn x _).mono fun _ _ h => (⟨h.1, below_to B2 h.2⟩ : _ ∧ Below W2.heap.size W2 _))).mono ?_
        rintro e w3 ⟨rfl, B3⟩
        clear c0 c1 c2 c3 c4 c5 c6 c7 c8 ct
        obtain ⟨c0, c1, c2, c3, c4, c5, c6, c7, c8⟩ := (show Sy nm W2 w.heap.size _ n F _ _ _ p A _ K from HSY).bx.below B3
        have ct := (B3.cell (p := ⟨w.heap.size, 0, none⟩) (lt_of_cell (show Sy nm W2 w.heap.size _ n F _ _ _ p A _ K from HSY).ct)).trans (show Sy nm W2 w.heap.size _ n F _ _ _ p A _ K from HSY).ct
        dsimp only at c0 c1 c2 c3 c4 c5 c6
        by_cases h3 : nm x
        · rw [dc_t h3]
          have HH3 : Hid (nm x) := h3
          clear h3
          go_wp2_with fail
          go_ret
          exact ⟨by rw [show R = _ from HR, dc_t ⟨(by first | rfl | trivial), HH1, HH2, HH3⟩]; first | rfl | (simp [*]; done), (show ∀ W, Below W2.heap.size W2 W → Below w.heap.size w W from HBL) _ B3⟩
        · rw [dc_f h3]
          have HN9 : Hid (Nt (nm x)) := h3
          clear h3
          go_wp2_with fail
          go_ret
          exact ⟨by rw [show R = _ from HR, dc_f (fun g => HN9 g.2.2.2)]; first | rfl | (simp [*]; done), (show ∀ W, Below W2.heap.size W2 W → Below w.heap.size w W from HBL) _ B3⟩
      · rw [dc_f h2]
        have HN9 : Hid (Nt (br ⟨42, f, t, l, o, m, x⟩ p false false true false)) := h2
        clear h2
        go_wp2_with fail
        go_ret
        exact ⟨by rw [show R = _ from HR, dc_f (fun g => HN9 g.2.2.1)]; first | rfl | (simp [*]; done), (show ∀ W, Below W2.heap.size W2 W → Below w.heap.size w W from HBL) _ B2⟩
    · rw [dc_f h1]
      have HN9 : Hid (Nt (ex F K 0 1)) := h1
      clear h1
      go_wp2_with fail
      go_ret
      exact ⟨by rw [show R = _ from HR, dc_f (fun g => HN9 g.2.1)]; first | rfl | (simp [*]; done), (show ∀ W, Below W2.heap.size W2 W → Below w.heap.size w W from HBL) _ B1⟩
  · have e0 : ((q : Int) == 1) = false := bne (by omega)
    have HN9 : Hid (Nt (q = 1)) := hq0
    clear hq0
    go_enter Tryz.func79, Tryz.ntmps79
    unfold fmv
    dsimp only at hW2
    go_wp2_with fail
    go_ret
    exact ⟨by rw [show R = _ from HR, dc_f (fun g => HN9 g.1)]; rfl, bel2 _ _ _⟩
end Go.Proofs.YtjggnnmnegcpjaaGreatDoor.Fo
