import Derived.Test.YtgpbmmhfhjobkaaBal
namespace Go.Proofs.Ytgpbmmhfhjobkaa
open Go.ChangeShapes Go.WideShapes Go.ChangeAt Go.RowKit
set_option linter.unusedVariables false
theorem held_strs' {v : Value} {g n : Nat} (w : World) (k : Nat) (y : Int) (hy : y = (k : Int)) (ha : OwnR w v g n (fun i => .string (mtx (k + i)))) (hn : n ≤ 1048576) (hk0 : 1 ≤ k) (hk : k ≤ 100000000) :
    Calls Try.prog 28 #[v, .int .i64 y] w fun e w' => e = .returned (.int .i64 (y + (n : Int))) ∧ Below w.heap.size w w' := by
  subst hy
  exact held_strs w k ha hn hk0 hk
theorem OwnF.below {W W' : World} {v : Value} {g n : Nat} {F : Nat → Gv} {t : Nat → Nat} {lo hi : Nat} (h : OwnF W v g n F t lo hi) (hb : Below W.heap.size W W') : OwnF W' v g n F t lo hi :=
  h.keep (fun b _ _ hl => hb.block b hl)
set_option maxRecDepth 100000 in
set_option maxHeartbeats 4000000 in
theorem held_forms {v : Value} {g n : Nat} {F : Nat → Gv} {t : Nat → Nat} {lo hi : Nat} (w : World) (k : Nat) (ha : OwnF w v g n (mkf F k) t lo hi) (hn : n + smr F n ≤ 1048576) (hk0 : 1 ≤ k) (hk : k ≤ 1000) :
    Calls Try.prog 19 #[v, .int .i64 (k : Int)] w fun e w' => e = .returned (.int .i64 (kst F k n : Int)) ∧ Below w.heap.size w w' := by
  obtain ⟨pa, ca, rfl, ha2⟩ := ha.sl
  by_cases h0 : n = 0
  · subst h0
    go_enter Try.func19, Try.ntmps19
    go_wp2_with fail
    refine wp_loop_rounds 1 ?_
    rw [rounds_succ]
    go_wp2_with fail
    go_ret
    exact ⟨rfl, Below.refl _ _⟩
  · obtain ⟨rfl, hca⟩ := ha2 (by omega)
    have HA : Hid (OwnF w (.slice (some ⟨g, 0, none⟩) n ca) g n (mkf F k) t lo hi) := ha
    have hnI : (n : Int) ≤ 1048576 := by omega
    have HN0 : Hid (0 < n ∧ n + smr F n ≤ 1048576 ∧ 1 ≤ k ∧ k ≤ 1000) := (⟨by omega, hn, hk0, hk⟩ : _ ∧ _ ∧ _ ∧ _)
    clear ha2 ha h0 hn hk0 hk
    go_enter Try.func19, Try.ntmps19
    go_wp2_with fail
    go_loopw [1, 5] (fun s1 s5 wr => ∃ (i : Nat) (x : Int), s5 = .int .i64 (i : Int) ∧ s1 = .int .i64 x ∧ i ≤ n ∧ Hid (x = (kst F k i : Int)) ∧ Hid (Below w.heap.size w wr)) (fun _ s5 _ => n - (intOf s5).toNat)
    case atStart => exact ⟨0, (k : Int), rfl, rfl, Nat.zero_le _, by show (k : Int) = ((k + 7 * 0 + 0 : Nat) : Int); omega, Below.refl _ _⟩
    case round =>
      obtain ⟨i, x, rfl, rfl, hin, HX, HB⟩ := hrel
      have hB := (show Below w.heap.size w wr from HB)
      have hN := (show 0 < n ∧ n + smr F n ≤ 1048576 ∧ 1 ≤ k ∧ k ≤ 1000 from HN0)
      have hX := (show x = (kst F k i : Int) from HX)
      have hm := smr_mono F hin
      have hkst : kst F k i = k + 7 * i + smr F i := rfl
      rcases Nat.lt_or_ge i n with hi2 | hi2
      · have hiI : (i : Int) < (n : Int) := by omega
        have hx : x ≤ 10000000 := by omega
        have hx0 : 1 ≤ x := by omega
        have hO := (show OwnF w (.slice (some ⟨g, 0, none⟩) n ca) g n (mkf F k) t lo hi from HA).below hB
        have hgl := hO.lt hN.1
        obtain ⟨vn, vk, gn, gk, hc, o1, o2, b1, b2, b3⟩ := hO.frm i hi2
        have hsu := smr_mono F (show i + 1 ≤ n from hi2)
        have hss : smr F (i + 1) = smr F i + (F i).p + (F i).q := rfl
        obtain ⟨c0, c1, c2, c3, c4, c5, c6, c7, c8⟩ := hc
        obtain ⟨X, hXt⟩ : ∃ X, X = mtx (kst F k i + 6) := ⟨_, rfl⟩
        have hmt := fun W => mark_tx (kst F k i + 6) (x + 1 + 1 + 1 + 1 + 1 + 1) (by omega) (by omega) (by omega) W
        rw [← hXt] at hmt
        rw [show (mkf F k i).a.k = x from hX.symm] at c0
        rw [show (mkf F k i).a.f = x + 1 from by show (kst F k i : Int) + 1 = _; omega] at c1
        rw [show (mkf F k i).a.t = x + 1 + 1 from by show (kst F k i : Int) + 2 = _; omega] at c2
        rw [show (mkf F k i).a.l = x + 1 + 1 + 1 from by show (kst F k i : Int) + 3 = _; omega] at c3
        rw [show (mkf F k i).a.o = x + 1 + 1 + 1 + 1 from by show (kst F k i : Int) + 4 = _; omega] at c4
        rw [show (mkf F k i).a.m = x + 1 + 1 + 1 + 1 + 1 from by show (kst F k i : Int) + 5 = _; omega] at c5
        rw [show (mkf F k i).a.x = X from hXt.symm] at c6
        obtain ⟨p, hp⟩ : ∃ p, p = (F i).p := ⟨_, rfl⟩
        obtain ⟨q, hq⟩ : ∃ q, q = (F i).q := ⟨_, rfl⟩
        have o1' : OwnR wr vn gn p (fun j => .string (mtx (kst F k i + 7 + j))) := by rw [hp]; exact o1
        have o2' : OwnR wr vk gk q (fun j => .int .i64 (((kst F k i + 7 + p : Nat) : Int) + (j : Int))) := by rw [hq, hp]; exact o2
        have g1 : Hid (∀ W', Below wr.heap.size wr W' → Calls Try.prog 28 #[vn, .int .i64 (x + 1 + 1 + 1 + 1 + 1 + 1 + 1)] W' fun e w' => e = .returned (.int .i64 (x + 1 + 1 + 1 + 1 + 1 + 1 + 1 + (p : Int))) ∧ Below W'.heap.size W' w') := (fun W' h => held_strs' W' (kst F k i + 7) _ (by omega) (o1'.block (fun hp => h.block _ (lt_of_cell (o1'.cell 0 hp)))) (by omega) (by omega) (by omega) : ∀ W', _)
        have g2 : Hid (∀ W', Below wr.heap.size wr W' → Calls Try.prog 29 #[vk, .int .i64 (x + 1 + 1 + 1 + 1 + 1 + 1 + 1 + (p : Int))] W' fun e w' => e = .returned (.int .i64 (x + 1 + 1 + 1 + 1 + 1 + 1 + 1 + (p : Int) + (q : Int))) ∧ ∃ d, w' = W'.drewN d) := (fun W' h => by
          rw [show x + 1 + 1 + 1 + 1 + 1 + 1 + 1 + (p : Int) = ((kst F k i + 7 + p : Nat) : Int) from by omega]
          exact held_ints W' _ (o2'.block (fun hp => h.block _ (lt_of_cell (o2'.cell 0 hp)))).row (by omega) (by omega) (by omega) : ∀ W', _)
        have HXN : Hid (x + 1 + 1 + 1 + 1 + 1 + 1 + 1 + (p : Int) + (q : Int) = (kst F k (i + 1) : Int)) := by
          show _ = _
          rw [kst_succ]; omega
        have hxp : x + 1 + 1 + 1 + 1 + 1 + 1 + 1 + (p : Int) ≤ 20000000 := by omega
        have hxq : x + 1 + 1 + 1 + 1 + 1 + 1 + 1 + (p : Int) + (q : Int) ≤ 40000000 := by omega
        have hxp0 : ¬ (x + 1 + 1 + 1 + 1 + 1 + 1 + 1 + (p : Int) < 0) := by omega
        have hxq0 : ¬ (x + 1 + 1 + 1 + 1 + 1 + 1 + 1 + (p : Int) + (q : Int) < 0) := by omega
        have HGL : Hid (g < wr.heap.size) := hgl
        have HBO : Hid (∀ (W0 W' : World), Below W0.heap.size W0 W' → W0.heap = wr.heap → (Below wr.heap.size wr wr → Below wr.heap.size wr W0) → Below wr.heap.size wr W') := (fun W0 W' h1 h2 h3 => (h3 (Below.refl _ _)).trans (h1.mono (h3 (Below.refl _ _)).size) : ∀ (W0 W' : World), _)
        have HKEEP : Hid (∀ (W0 W' : World), Below W0.heap.size W0 W' → W0.heap = wr.heap → ∀ o, W'.cell? ⟨g, o, none⟩ = wr.cell? ⟨g, o, none⟩) := (fun W0 W' hb he o => World.cell?_of_block (by rw [hb.block g (by rw [he]; exact hgl), he]) : ∀ (W0 W' : World), _)
        clear hO o1 o2 o1' o2' b1 b2 b3 hgl hX HX hm hkst hN HN0 hsu hss hXt hp hq hin HA hB
        dsimp only at c1 c2 c3 c4 c5 c6 c7 c8
        have HC78 : Hid (wr.cell? ⟨g, i * 9 + 7, none⟩ = some vn ∧ wr.cell? ⟨g, i * 9 + 8, none⟩ = some vk) := (⟨c7, c8⟩ : _ ∧ _)
        clear c7 c8
        go_wp2_with fail
        clear c0 c1 c2 c3 c4 c5
        go_region_held_law (fun W' => W'.cell? ⟨g, i * 9 + 6, none⟩ = some (.string X)) (first | exact c6 | exact ((show ∀ (W0 W' : World), Below W0.heap.size W0 W' → W0.heap = wr.heap → ∀ o, W'.cell? ⟨g, o, none⟩ = wr.cell? ⟨g, o, none⟩ from HKEEP) _ _ hb5 rfl _).trans c6) ((go_at_call 25; refine (hmt _).mono ?_; rintro e w5 ⟨rfl, hb5⟩))
        all_goals
          have hb9 := (show ∀ (W0 W' : World), Below W0.heap.size W0 W' → W0.heap = wr.heap → (Below wr.heap.size wr wr → Below wr.heap.size wr W0) → Below wr.heap.size wr W' from HBO) _ _ hb5 rfl (fun h => ⟨h.os, h.tape, h.output, h.size, h.block⟩)
          have hC := (show wr.cell? ⟨g, i * 9 + 7, none⟩ = some vn ∧ wr.cell? ⟨g, i * 9 + 8, none⟩ = some vk from HC78)
          have c7 : w5.cell? ⟨g, i * 9 + 7, none⟩ = some vn := (hb9.cell (p := ⟨g, i * 9 + 7, none⟩) HGL).trans hC.1
          have c8 : w5.cell? ⟨g, i * 9 + 8, none⟩ = some vk := (hb9.cell (p := ⟨g, i * 9 + 8, none⟩) HGL).trans hC.2
          have HB9 : Hid (Below wr.heap.size wr w5) := hb9
          clear hb5 hb9 HBO HKEEP c6 hC hmt
          go_wp2_with fail
          refine ((show ∀ W', Below wr.heap.size wr W' → _ from g1) _ HB9).mono ?_
          rintro e w6 ⟨rfl, hb6⟩
          have hb9 := (show Below wr.heap.size wr w5 from HB9)
          have hb10 := hb9.trans (hb6.mono hb9.size)
          have c8' : w6.cell? ⟨g, i * 9 + 8, none⟩ = some vk := (hb10.cell (p := ⟨g, i * 9 + 8, none⟩) HGL).trans HC78.2
          have HB10 : Hid (Below wr.heap.size wr w6) := hb10
          clear hb9 hb10 hb6 c7 c8 HB9 g1
          go_wp2_with fail
          refine ((show ∀ W', Below wr.heap.size wr W' → _ from g2) _ HB10).mono ?_
          rintro e w7 ⟨rfl, d, rfl⟩
          have HB11 : Hid (Below w.heap.size w (w6.drewN d)) := bdn ((show Below w.heap.size w wr from HB).trans ((show Below wr.heap.size wr w6 from HB10).mono (show Below w.heap.size w wr from HB).size)) _
          clear HB10 g2 c8' HB HC78
          go_wp2_with fail
          go_roundw
          case rel => exact ⟨i + 1, _, by go_num, rfl, by omega, HXN, HB11⟩
          case measure => simp [intOf]; omega
      · obtain rfl : i = n := by omega
        have HE : Hid (x = (kst F k i : Int)) := hX
        clear hN HN0 hX HX hm hkst HA hB
        go_wp2_with fail
        go_ret
        exact ⟨by rw [← show x = (kst F k i : Int) from HE]; rfl, HB⟩
end Go.Proofs.Ytgpbmmhfhjobkaa
