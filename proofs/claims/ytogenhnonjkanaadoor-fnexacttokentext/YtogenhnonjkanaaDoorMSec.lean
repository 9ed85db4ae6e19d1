import Derived.Test.YtogenhnonjkanaaDoorMSea
namespace Go.Proofs.YtogenhnonjkanaaDoor
open Go.ChangeShapes Go.WideShapes Go.ChangeAt Go.RowKit
set_option linter.unusedVariables false
theorem set_ne (W : World) (g o o' : Nat) (v : Value) (h : o' ≠ o) : (W.setCell ⟨g, o, none⟩ v).cell? ⟨g, o', none⟩ = W.cell? ⟨g, o', none⟩ :=
  World.cell?_setCell_other _ _ _ _ (fun e => h (congrArg Addr.off e).symm)
theorem set_eq (W : World) (g o : Nat) (v u : Value) (h : W.cell? ⟨g, o, none⟩ = some u) : (W.setCell ⟨g, o, none⟩ v).cell? ⟨g, o, none⟩ = some v :=
  World.cell?_setCell_same _ _ _ h
theorem set_fz (W : World) (g o o' : Nat) (v : Value) : (W.setCell ⟨g, o, none⟩ v).frozen? ⟨g, o', none⟩ = W.frozen? ⟨g, o', none⟩ := by simp
/-- the mark of token number i -/
def mkT (i : Nat) : Tv := ⟨1 + 6 * (i : Int), 1 + 6 * (i : Int) + 1, 1 + 6 * (i : Int) + 1 + 1, 1 + 6 * (i : Int) + 1 + 1 + 1, 1 + 6 * (i : Int) + 1 + 1 + 1 + 1, ⟨#[109]⟩ ++ mtl (6 * i + 6) ⟨#[]⟩⟩
def s5 (W : World) (g o : Nat) (k : Int) : World := ((((W.setCell ⟨g, o, none⟩ (.int .i64 k)).setCell ⟨g, o + 1, none⟩ (.int .i64 (k + 1))).setCell ⟨g, o + 2, none⟩ (.int .i64 (k + 1 + 1))).setCell ⟨g, o + 3, none⟩ (.int .i64 (k + 1 + 1 + 1))).setCell ⟨g, o + 4, none⟩ (.int .i64 (k + 1 + 1 + 1 + 1))
theorem s5_ne (W : World) (g o : Nat) (k : Int) (o' : Nat) (h : o' < o ∨ o + 4 < o') : (s5 W g o k).cell? ⟨g, o', none⟩ = W.cell? ⟨g, o', none⟩ := by
  unfold s5
  rw [set_ne _ _ _ _ _ (by omega), set_ne _ _ _ _ _ (by omega), set_ne _ _ _ _ _ (by omega), set_ne _ _ _ _ _ (by omega), set_ne _ _ _ _ _ (by omega)]
theorem s5_in {W : World} {g o : Nat} {a : Tv} (h : Cel W g o a) (k : Int) : (s5 W g o k).cell? ⟨g, o, none⟩ = some (.int .i64 k) ∧ (s5 W g o k).cell? ⟨g, o + 1, none⟩ = some (.int .i64 (k + 1)) ∧ (s5 W g o k).cell? ⟨g, o + 2, none⟩ = some (.int .i64 (k + 1 + 1)) ∧ (s5 W g o k).cell? ⟨g, o + 3, none⟩ = some (.int .i64 (k + 1 + 1 + 1)) ∧ (s5 W g o k).cell? ⟨g, o + 4, none⟩ = some (.int .i64 (k + 1 + 1 + 1 + 1)) := by
  unfold s5
  refine ⟨?_, ?_, ?_, ?_, ?_⟩
  · rw [set_ne _ _ _ _ _ (by omega), set_ne _ _ _ _ _ (by omega), set_ne _ _ _ _ _ (by omega), set_ne _ _ _ _ _ (by omega)]
    exact set_eq _ _ _ _ _ h.c0
  · rw [set_ne _ _ _ _ _ (by omega), set_ne _ _ _ _ _ (by omega), set_ne _ _ _ _ _ (by omega)]
    exact set_eq _ _ _ _ _ (by rw [set_ne _ _ _ _ _ (by omega)]; exact h.c1)
  · rw [set_ne _ _ _ _ _ (by omega), set_ne _ _ _ _ _ (by omega)]
    exact set_eq _ _ _ _ _ (by rw [set_ne _ _ _ _ _ (by omega), set_ne _ _ _ _ _ (by omega)]; exact h.c2)
  · rw [set_ne _ _ _ _ _ (by omega)]
    exact set_eq _ _ _ _ _ (by rw [set_ne _ _ _ _ _ (by omega), set_ne _ _ _ _ _ (by omega), set_ne _ _ _ _ _ (by omega)]; exact h.c3)
  · exact set_eq _ _ _ _ _ (by rw [set_ne _ _ _ _ _ (by omega), set_ne _ _ _ _ _ (by omega), set_ne _ _ _ _ _ (by omega), set_ne _ _ _ _ _ (by omega)]; exact h.c4)
theorem s5_kb (W : World) (g o : Nat) (k : Int) : Kb g W (s5 W g o k) := by
  unfold s5
  exact ((((((Kb.refl g W).setCell _ _).setCell _ _).setCell _ _).setCell _ _).setCell _ _)
theorem s5_fz {W : World} {g : Nat} (h : ∀ j, W.frozen? ⟨g, j, none⟩ = false) (o : Nat) (k : Int) (j : Nat) : (s5 W g o k).frozen? ⟨g, j, none⟩ = false := by
  unfold s5
  simp [h j]
/-- between two rounds of the marking -/
structure MkI (w : World) (g n : Nat) (A : Nat → Tv) (i : Nat) (W : World) : Prop where
  kb : Kb g w W
  don : ∀ i', i' < i → Cel W g (i' * 6) (mkT i')
  rest : ∀ i', i ≤ i' → i' < n → Cel W g (i' * 6) (A i')
  fz : ∀ j, W.frozen? ⟨g, j, none⟩ = false
theorem MkI.step {w W w6 : World} {g n i : Nat} {A : Nat → Tv} (h : MkI w g n A i W) (hi : i < n) (k : Int) (hk : k = 1 + 6 * (i : Int)) (hb : Below (s5 W g (i * 6) k).heap.size (s5 W g (i * 6) k) w6) :
    w6.cell? ⟨g, i * 6 + 5, none⟩ = some (.string (A i).x) ∧ w6.frozen? ⟨g, i * 6 + 5, none⟩ = false ∧ MkI w g n A (i + 1) (w6.setCell ⟨g, i * 6 + 5, none⟩ (.string (mkT i).x)) := by
  have hc := h.rest i (Nat.le_refl _) hi
  have hlt : g < (s5 W g (i * 6) k).heap.size := Nat.lt_of_lt_of_le hc.lt (s5_kb W g (i * 6) k).size
  have e6 : ∀ j, w6.cell? ⟨g, j, none⟩ = (s5 W g (i * 6) k).cell? ⟨g, j, none⟩ := fun j => World.cell?_of_block (hb.block g hlt)
  have f6 : ∀ j, w6.frozen? ⟨g, j, none⟩ = false := fun j => by rw [World.frozen?_of_block (hb.block g hlt)]; exact s5_fz h.fz _ _ _
  have c5 : w6.cell? ⟨g, i * 6 + 5, none⟩ = some (.string (A i).x) := by rw [e6, s5_ne _ _ _ _ _ (by omega)]; exact hc.c5
  obtain ⟨i0, i1, i2, i3, i4⟩ := s5_in hc k
  have far : ∀ {o : Nat} {a : Tv}, (o + 6 ≤ i * 6 ∨ i * 6 + 6 ≤ o) → Cel W g o a → Cel (w6.setCell ⟨g, i * 6 + 5, none⟩ (.string (mkT i).x)) g o a := by
    intro o a ho hca
    refine ⟨?_, ?_, ?_, ?_, ?_, ?_⟩
    · rw [set_ne _ _ _ _ _ (by omega), e6, s5_ne _ _ _ _ _ (by omega)]; exact hca.c0
    · rw [set_ne _ _ _ _ _ (by omega), e6, s5_ne _ _ _ _ _ (by omega)]; exact hca.c1
    · rw [set_ne _ _ _ _ _ (by omega), e6, s5_ne _ _ _ _ _ (by omega)]; exact hca.c2
    · rw [set_ne _ _ _ _ _ (by omega), e6, s5_ne _ _ _ _ _ (by omega)]; exact hca.c3
    · rw [set_ne _ _ _ _ _ (by omega), e6, s5_ne _ _ _ _ _ (by omega)]; exact hca.c4
    · rw [set_ne _ _ _ _ _ (by omega), e6, s5_ne _ _ _ _ _ (by omega)]; exact hca.c5
  refine ⟨c5, f6 _, ⟨((h.kb.trans (s5_kb W g (i * 6) k)).trans (Kb.of_below hb (Nat.le_refl _))).setCell _ _, ?_, ?_, ?_⟩⟩
  · intro i' hi'
    by_cases e : i' = i
    · subst e
      subst hk
      refine ⟨?_, ?_, ?_, ?_, ?_, ?_⟩
      · rw [set_ne _ _ _ _ _ (by omega), e6]; exact i0
      · rw [set_ne _ _ _ _ _ (by omega), e6]; exact i1
      · rw [set_ne _ _ _ _ _ (by omega), e6]; exact i2
      · rw [set_ne _ _ _ _ _ (by omega), e6]; exact i3
      · rw [set_ne _ _ _ _ _ (by omega), e6]; exact i4
      · exact set_eq _ _ _ _ _ c5
    · exact far (by omega) (h.don i' (by omega))
  · intro i' h1 h2
    exact far (by omega) (h.rest i' (by omega) h2)
  · intro j
    rw [set_fz]; exact f6 j
set_option maxRecDepth 100000 in
set_option maxHeartbeats 4000000 in
theorem mark_toks {v : Value} {g n : Nat} {A : Nat → Tv} (w : World) (ha : RowC w v g n A) (hf : 0 < n → ∀ j, w.frozen? ⟨g, j, none⟩ = false) (hn : n ≤ 65536) :
    Calls Tryd.prog 18 #[v, .int .i64 1] w fun e w' => e = .returned (.int .i64 (1 + 6 * (n : Int))) ∧ Kb g w w' ∧ (n = 0 → ∀ B, Kb B w w') ∧ RowC w' v g n mkT := by
  obtain ⟨pa, ca, rfl, ha2, ha3⟩ := ha
  by_cases h0 : n = 0
  · subst h0
    go_enter Tryd.func18, Tryd.ntmps18
    go_wp2_with fail
    refine wp_loop_rounds 1 ?_
    rw [rounds_succ]
    go_wp2_with fail
    go_ret
    exact ⟨rfl, Kb.refl _ _, fun _ B => Kb.refl _ _, ⟨pa, ca, rfl, ha2, fun i hi => by omega⟩⟩
  · obtain ⟨rfl, hca⟩ := ha2 (by omega)
    have HI0 : Hid (MkI w g n A 0 w) := (⟨Kb.refl _ _, fun i hi => by omega, fun i _ hi => ha3 i hi, hf (by omega)⟩ : MkI w g n A 0 w)
    have hnI : (n : Int) ≤ 65536 := by omega
    have HN0 : Hid (¬ n = 0) := h0
    clear ha2 ha3 hf h0
    go_enter Tryd.func18, Tryd.ntmps18
    go_wp2_with fail
    go_loopw [1, 5] (fun s1 s5 wr => ∃ i : Nat, s5 = .int .i64 (i : Int) ∧ s1 = .int .i64 (1 + 6 * (i : Int)) ∧ i ≤ n ∧ Hid (MkI w g n A i wr)) (fun _ s5 _ => n - (intOf s5).toNat)
    case atStart => exact ⟨0, rfl, rfl, Nat.zero_le _, HI0⟩
    case round =>
      clear HI0
      obtain ⟨i, rfl, rfl, hin, HI⟩ := hrel
      have hI := (show MkI w g n A i wr from HI)
      rcases Nat.lt_or_ge i n with hi | hi
      · have hiI : (i : Int) < (n : Int) := by omega
        have hc := hI.rest i (Nat.le_refl _) hi
        have a0 := hc.c0
        have a1 := hc.c1
        have a2 := hc.c2
        have a3 := hc.c3
        have a4 := hc.c4
        have fz := hI.fz
        obtain ⟨k, hk⟩ : ∃ k : Int, k = 1 + 6 * (i : Int) := ⟨_, rfl⟩
        have HST : Hid (∀ w6, Below (s5 wr g (i * 6) k).heap.size (s5 wr g (i * 6) k) w6 → w6.cell? ⟨g, i * 6 + 5, none⟩ = some (.string (A i).x) ∧ w6.frozen? ⟨g, i * 6 + 5, none⟩ = false ∧ MkI w g n A (i + 1) (w6.setCell ⟨g, i * 6 + 5, none⟩ (.string (mkT i).x))) :=
          (fun w6 hb => hI.step hi k hk hb : ∀ w6, _)
        have hmt := fun W => mark_text (6 * i + 6) (by omega) (by omega) W
        rw [show ((6 * i + 6 : Nat) : Int) = k + 1 + 1 + 1 + 1 + 1 by omega] at hmt
        obtain ⟨X, hX⟩ : ∃ X, (⟨#[109]⟩ ++ mtl (6 * i + 6) ⟨#[]⟩ : ByteArray) = X := ⟨_, rfl⟩
        have HX : Hid ((mkT i).x = X) := hX
        rw [hX] at hmt
        have hk0 : (0 : Int) ≤ k := by omega
        have hk1 : k ≤ 400000 := by omega
        have HK : Hid (k = 1 + 6 * (i : Int)) := hk
        rw [← hk]
        clear hI hc HI hk hX hin
        generalize (A i).k = xk at *
        generalize (A i).f = xf at *
        generalize (A i).t = xt at *
        generalize (A i).l = xl at *
        generalize (A i).n = xn at *
        go_wp2_with fail
        refine (hmt _).mono ?_
        rintro e w6 ⟨rfl, hb6⟩
        obtain ⟨c5, f5, hM⟩ := (show ∀ w6, Below (s5 wr g (i * 6) k).heap.size (s5 wr g (i * 6) k) w6 → w6.cell? ⟨g, i * 6 + 5, none⟩ = some (.string (A i).x) ∧ w6.frozen? ⟨g, i * 6 + 5, none⟩ = false ∧ MkI w g n A (i + 1) (w6.setCell ⟨g, i * 6 + 5, none⟩ (.string (mkT i).x)) from HST) w6 hb6
        rw [show (mkT i).x = X from HX] at hM
        have HM : Hid (MkI w g n A (i + 1) (w6.setCell ⟨g, i * 6 + 5, none⟩ (.string X))) := hM
        clear hM HST hb6 hmt a0 a1 a2 a3 a4 fz HX
        go_wp2_with fail
        go_roundw
        case rel => exact ⟨i + 1, by go_num, by rw [show k = 1 + 6 * (i : Int) from HK]; exact congrArg (Value.int .i64) (by omega), by omega, HM⟩
        case measure => simp [intOf]; omega
      · obtain rfl : i = n := by omega
        have HE : Hid (MkI w g i A i wr) := hI
        clear HI hI
        go_wp2_with fail
        go_ret
        exact ⟨rfl, HE.kb, fun g0 => absurd g0 HN0, ⟨_, ca, rfl, fun _ => ⟨rfl, hca⟩, fun i' hi' => HE.don i' hi'⟩⟩
set_option maxRecDepth 100000 in
set_option maxHeartbeats 4000000 in
theorem held_toks {v : Value} {g n : Nat} (w : World) (ha : RowC w v g n mkT) (hn : n ≤ 65536) :
    Calls Tryd.prog 19 #[v, .int .i64 1] w fun e w' => e = .returned (.int .i64 (1 + 6 * (n : Int))) ∧ Below w.heap.size w w' := by
  obtain ⟨pa, ca, rfl, ha2, ha3⟩ := ha
  by_cases h0 : n = 0
  · subst h0
    go_enter Tryd.func19, Tryd.ntmps19
    go_wp2_with fail
    refine wp_loop_rounds 1 ?_
    rw [rounds_succ]
    go_wp2_with fail
    go_ret
    exact ⟨rfl, Below.refl _ _⟩
  · obtain ⟨rfl, hca⟩ := ha2 (by omega)
    have HR : Hid (∀ i, i < n → Cel w g (i * 6) (mkT i)) := ha3
    have hnI : (n : Int) ≤ 65536 := by omega
    clear ha2 ha3 h0
    go_enter Tryd.func19, Tryd.ntmps19
    go_wp2_with fail
    go_loopw [1, 5] (fun s1 s5 wr => ∃ i : Nat, s5 = .int .i64 (i : Int) ∧ s1 = .int .i64 (1 + 6 * (i : Int)) ∧ i ≤ n ∧ Hid (Below w.heap.size w wr)) (fun _ s5 _ => n - (intOf s5).toNat)
    case atStart => exact ⟨0, rfl, rfl, Nat.zero_le _, Below.refl _ _⟩
    case round =>
      obtain ⟨i, rfl, rfl, hin, HB⟩ := hrel
      rcases Nat.lt_or_ge i n with hi | hi
      · have hiI : (i : Int) < (n : Int) := by omega
        have ra := (show ∀ i, i < n → Cel w g (i * 6) (mkT i) from HR) i hi
        have hc := ra.block (HB.block _ ra.lt)
        have hla := hc.lt
        obtain ⟨k, hk⟩ : ∃ k : Int, k = 1 + 6 * (i : Int) := ⟨_, rfl⟩
        have a0 : wr.cell? ⟨g, i * 6, none⟩ = some (.int .i64 k) := by rw [hk]; exact hc.c0
        have a1 : wr.cell? ⟨g, i * 6 + 1, none⟩ = some (.int .i64 (k + 1)) := by rw [hk]; exact hc.c1
        have a2 : wr.cell? ⟨g, i * 6 + 2, none⟩ = some (.int .i64 (k + 1 + 1)) := by rw [hk]; exact hc.c2
        have a3 : wr.cell? ⟨g, i * 6 + 3, none⟩ = some (.int .i64 (k + 1 + 1 + 1)) := by rw [hk]; exact hc.c3
        have a4 : wr.cell? ⟨g, i * 6 + 4, none⟩ = some (.int .i64 (k + 1 + 1 + 1 + 1)) := by rw [hk]; exact hc.c4
        have hmt := fun W => mark_text (6 * i + 6) (by omega) (by omega) W
        rw [show ((6 * i + 6 : Nat) : Int) = k + 1 + 1 + 1 + 1 + 1 by omega] at hmt
        obtain ⟨X, hX⟩ : ∃ X, (⟨#[109]⟩ ++ mtl (6 * i + 6) ⟨#[]⟩ : ByteArray) = X := ⟨_, rfl⟩
        rw [hX] at hmt
        have a5 : wr.cell? ⟨g, i * 6 + 5, none⟩ = some (.string X) := by rw [← hX]; exact hc.c5
        have hk0 : (0 : Int) ≤ k := by omega
        have hk1 : k ≤ 400000 := by omega
        have HK : Hid (k = 1 + 6 * (i : Int)) := hk
        have HKEEP : Hid (∀ (W0 W' : World), Below W0.heap.size W0 W' → W0.heap = wr.heap → W'.cell? ⟨g, i * 6 + 5, none⟩ = some (.string X)) := (fun W0 W' hb he => by
          rw [← a5]
          exact World.cell?_of_block (by rw [hb.block g (by rw [he]; exact hla), he]) : ∀ (W0 W' : World), Below W0.heap.size W0 W' → W0.heap = wr.heap → W'.cell? ⟨g, i * 6 + 5, none⟩ = some (.string X))
        have HB2 : Hid (∀ (W0 W' : World), Below W0.heap.size W0 W' → (Below w.heap.size w wr → Below w.heap.size w W0) → Below w.heap.size w W') := (fun W0 W' h1 h2 => (h2 HB).trans (h1.mono (h2 HB).size) : ∀ (W0 W' : World), Below W0.heap.size W0 W' → (Below w.heap.size w wr → Below w.heap.size w W0) → Below w.heap.size w W')
        rw [← hk]
        clear ra hc HB hk hX hin HR hla
        go_wp2_with fail
        go_region_held_law (fun W' => W'.cell? ⟨g, i * 6 + 5, none⟩ = some (.string X)) (first | exact a5 | exact (show ∀ (W0 W' : World), _ from HKEEP) _ _ hb5 rfl) ((go_at_call 43; refine (hmt _).mono ?_; rintro e w5 ⟨rfl, hb5⟩))
        all_goals
          have HB5 : Hid (Below w.heap.size w w5) := (show ∀ (W0 W' : World), Below W0.heap.size W0 W' → (Below w.heap.size w wr → Below w.heap.size w W0) → Below w.heap.size w W' from HB2) _ _ hb5 (fun h => ⟨h.os, h.tape, h.output, h.size, h.block⟩)
          clear HB2 HKEEP hb5 a0 a1 a2 a3 a4 a5 hmt
          go_wp2_with fail
          go_roundw
          case rel => exact ⟨i + 1, by go_num, by rw [show k = 1 + 6 * (i : Int) from HK]; exact congrArg (Value.int .i64) (by omega), by omega, HB5⟩
          case measure => simp [intOf]; omega
      · obtain rfl : i = n := by omega
        clear HR
        go_wp2_with fail
        go_ret
        exact ⟨rfl, HB⟩
end Go.Proofs.YtogenhnonjkanaaDoor
