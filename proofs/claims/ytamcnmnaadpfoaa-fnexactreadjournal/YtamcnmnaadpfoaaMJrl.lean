import Derived.Test.YtamcnmnaadpfoaaMJrk
import Derived.Test.YtamcnmnaadpfoaaMJrg
import Derived.Test.YtamcnmnaadpfoaaMJrj
import Derived.Test.YtamcnmnaadpfoaaMUbd
namespace Go.Proofs.Ytamcnmnaadpfoaa.Fo
open Go.ChangeShapes Go.WideShapes Go.ChangeAt Go.RowKit
set_option linter.unusedVariables false
set_option maxRecDepth 100000
theorem Jo.congr {J K : Jd} {L H : Nat} {W : World} {v u : Value} {g b : Nat} (e : Jeq J K) (h : Jo K L H W v u g b) : Jo J L H W v u g b := by
  have hl : OwnR W v g J.n (fun i => .string (J.S i)) := by
    rw [e.n]
    exact ⟨h.l.sl, fun i hi => (h.l.cell i hi).trans (by rw [e.S i (by rw [e.n]; exact hi)]), h.l.fz⟩
  exact ⟨hl, by rw [e.m]; exact h.s, h.hg, h.hb, h.ne⟩
theorem rja_jb {M : List UInt8} {ok : Bool} {J : Jd} (h : RjA M ok J) : Jb J ∧ J.n ≤ 300 ∧ J.m ≤ 300 := by
  cases ok
  · rw [(h.2 rfl).1]
    exact ⟨⟨Nat.zero_le _, Nat.zero_le _, fun i hi => absurd hi (Nat.not_lt_zero _)⟩, Nat.zero_le _, Nat.zero_le _⟩
  · obtain ⟨h1, h2, -⟩ := h.1 rfl
    obtain ⟨q1, q2, -, -, -, q6⟩ := (jir_ok h2 h1).1
    refine ⟨⟨by omega, by omega, fun i hi => ?_⟩, by omega, by omega⟩
    obtain ⟨_, _, q⟩ := q6 i hi
    omega
set_option maxHeartbeats 32000000 in
theorem law_rj {pa : Option Addr} {ca n : Nat} {A : Nat → Int} (w : World) (ha : RowV w (.slice pa n ca) n (fun i => .int .u8 (A i))) (hn : (n : Int) < 140737488355328) (hA : ∀ i, i < n → 0 ≤ A i ∧ A i ≤ 255) :
    Calls Try.prog 3 #[.slice pa n ca] w fun e w' => e = .returned (.bool true) ∧ Kb 0 w w' := by
  by_cases hlong : 1048576 < n
  · have hl : (1048576 : Int) < (n : Int) := by omega
    clear ha hA hlong
    go_enter Try.func3, Try.ntmps3
    go_wp2_with fail
    go_ret
    exact ⟨rfl, Kb.refl _ _⟩
  have hn9 : n ≤ 1048576 := by omega
  obtain ⟨M, rfl, hMA⟩ := bytes_of hA
  have hl : ¬ (1048576 : Int) < (M.length : Int) := by omega
  have HTO : Hid (∀ W, Kb 0 w W → Calls Try.prog 6 #[.slice pa M.length ca] W fun e w' => ∃ c', e = .returned (.slice (some ⟨W.heap.size, 0, none⟩) M.length c') ∧ M.length ≤ c' ∧ OwnR w' (.slice (some ⟨W.heap.size, 0, none⟩) M.length c') W.heap.size M.length (fun i => .int .u8 (A i)) ∧ Kb 0 W w' ∧ W.heap.size < w'.heap.size) := (fun W k => (to_byts2 W (ha.rowB.keep k).row hn9).mono (fun e w' ⟨c', h1, h2, h3, h4, h5⟩ => ⟨c', h1, h2, h3, Kb.of_below h4 0, h5⟩) : ∀ W, _)
  have HSP : Hid (∀ (W : World) (g c' : Nat), g < W.heap.size → M.length ≤ c' → (∀ i, i < M.length → W.cell? ⟨g, i, none⟩ = some (.int .u8 (A i))) → Calls Try.prog 5 #[.slice (some ⟨g, 0, none⟩) M.length c'] W (RjM M W)) := (fun W g c' h1 h2 h3 => sp_rj (pa := ⟨g, 0, none⟩) (c := c') (M := M) W h2 (fun i x hx => by rw [addr0, h3 i (List.getElem?_eq_some_iff.1 hx).1, hMA i x hx]) h1 hn9 : ∀ (W : World) (g c' : Nat), _)
  have HIM : Hid (∀ (W : World) (g c' : Nat), M.length ≤ c' → (∀ i, i < M.length → W.cell? ⟨g, i, none⟩ = some (.int .u8 (A i))) → Calls Try.prog 7 #[.slice (some ⟨g, 0, none⟩) M.length c'] W (RjM M W)) := (fun W g c' h2 h3 => im_rj W (arg_of hMA h2 h3) hn9 : ∀ (W : World) (g c' : Nat), _)
  have HN : Hid (M.length ≤ 1048576) := hn9
  have HT1 := (show ∀ W, Kb 0 w W → _ from HTO) w (Kb.refl _ _)
  clear ha hA hn9 hlong hMA hn
  go_enter Try.func3, Try.ntmps3
  go_wp2_with fail
  refine HT1.mono ?_
  rintro e w1 ⟨c1, rfl, hc1, o1, k1, z1⟩
  have HS1 := (show ∀ (W : World) (g c' : Nat), _ from HSP) w1 w.heap.size c1 z1 hc1 o1.cell
  clear HT1 HSP o1 hc1 z1
  go_wp2_with fail
  refine HS1.mono ?_
  rintro e w2 ⟨ok, K, v2, u2, rfl, ra2, hx2, k2⟩
  have hbK := rja_jb ra2
  have r2 : Jr K w2 v2 u2 := hx2.1
  obtain ⟨N, S, P, Q, m, T⟩ := K
  obtain ⟨pw, qw, rfl, -⟩ := id r2.1
  obtain ⟨pv, qv, rfl, -⟩ := id r2.2
  dsimp only at hbK ⊢
  obtain ⟨P3, hP3⟩ : ∃ P3, P3 = w2.heap.size := ⟨_, rfl⟩
  obtain ⟨w3, hw3⟩ : ∃ w3, w3 = w2.alloc (.cells #[.bool ok, .slice pw N qw, .int .i64 P, .int .i64 Q, .slice pv m qv] 28) := ⟨_, rfl⟩
  have k23 : Kb 0 w2 w3 := by rw [hw3]; exact kb_alloc _ _ _
  have b3 : w3.heap[P3]? = some (.cells #[.bool ok, .slice pw N qw, .int .i64 P, .int .i64 Q, .slice pv m qv] 28 (0, 0)) := by rw [hw3, hP3]; exact alloc_new _ _ _
  have z3 : w3.heap.size = P3 + 1 := by rw [hw3, hP3]; exact World.size_alloc _ _
  have k03 : Kb 0 w w3 := (k1.trans k2).trans k23
  have HK3 : Hid (Kb 0 w w3 ∧ w3.heap[P3]? = some (.cells #[.bool ok, .slice pw N qw, .int .i64 P, .int .i64 Q, .slice pv m qv] 28 (0, 0)) ∧ w3.heap.size = P3 + 1 ∧ Jr (⟨N, S, P, Q, m, T⟩ : Jd) w3 (.slice pw N qw) (.slice pv m qv)) := (⟨k03, b3, z3, r2.keep k23⟩ : _ ∧ _)
  have HRA : Hid (RjA M ok (⟨N, S, P, Q, m, T⟩ : Jd) ∧ Jb (⟨N, S, P, Q, m, T⟩ : Jd) ∧ N ≤ 300 ∧ m ≤ 300) := (⟨ra2, hbK⟩ : _ ∧ _)
  have HT2 := (show ∀ W, Kb 0 w W → _ from HTO) w3 k03
  have HW3 : Hid (w3 = w2.alloc (.cells #[.bool ok, .slice pw N qw, .int .i64 P, .int .i64 Q, .slice pv m qv] 28) ∧ P3 = w2.heap.size) := (⟨hw3, hP3⟩ : _ ∧ _)
  clear HS1 r2 ra2 hx2 k2 k1 hbK k23 b3 z3 k03 hw3 hP3
  go_upto_region 4 with fail
  rw [← (show _ ∧ _ from HW3).1, ← (show _ ∧ _ from HW3).2]
  clear HW3
  go_wp2_with fail
  refine HT2.mono ?_
  rintro e w4 ⟨c4, rfl, hc4, o4, k4, z4⟩
  have HI4 := (show ∀ (W : World) (g c' : Nat), _ from HIM) w4 w3.heap.size c4 hc4 o4.cell
  obtain ⟨G4, hG4⟩ : ∃ G4, G4 = w3.heap.size := ⟨_, rfl⟩
  rw [← hG4] at HI4 o4 z4 ⊢
  have HK4 : Hid (Kb 0 w3 w4 ∧ OwnR w4 (.slice (some ⟨G4, 0, none⟩) M.length c4) G4 M.length (fun i => .int .u8 (A i)) ∧ G4 < w4.heap.size ∧ G4 = w3.heap.size) := (⟨k4, o4, z4, hG4⟩ : _ ∧ _)
  clear HT2 hc4 o4 k4 z4 hG4
  go_wp2_with fail
  refine HI4.mono ?_
  rintro e w5 ⟨ok', J, v5, u5, rfl, ra5, ⟨r5, gg, bb, o5⟩, k5⟩
  obtain ⟨hok, hJ⟩ := (show _ ∧ _ from HRA).1.uniq ra5
  subst hok
  replace r5 := r5.congr hJ
  replace o5 := o5.congr hJ
  have hJp : J.p = P := hJ.p.symm
  have hJq : J.q = Q := hJ.q.symm
  rw [hJp, hJq]
  clear hJ hJp hJq ra5
  obtain ⟨pg, qg, rfl, -⟩ := id r5.1
  obtain ⟨pz, qz, rfl, -⟩ := id r5.2
  dsimp only
  obtain ⟨k03, b3, z3, r3⟩ := (show _ ∧ _ ∧ _ ∧ _ from HK3)
  obtain ⟨k34, o4, z4, hG4⟩ := (show _ ∧ _ ∧ _ ∧ _ from HK4)
  obtain ⟨P6, hP6⟩ : ∃ P6, P6 = w5.heap.size := ⟨_, rfl⟩
  obtain ⟨w6, hw6⟩ : ∃ w6, w6 = w5.alloc (.cells #[.bool ok, .slice pg N qg, .int .i64 P, .int .i64 Q, .slice pz m qz] 28) := ⟨_, rfl⟩
  have k56 : Kb 0 w5 w6 := by rw [hw6]; exact kb_alloc _ _ _
  have b6 : w6.heap[P6]? = some (.cells #[.bool ok, .slice pg N qg, .int .i64 P, .int .i64 Q, .slice pz m qz] 28 (0, 0)) := by rw [hw6, hP6]; exact alloc_new _ _ _
  have z6 : w6.heap.size = P6 + 1 := by rw [hw6, hP6]; exact World.size_alloc _ _
  have z5 := k5.size
  have z34 := k34.size
  have k36 : Kb 0 w3 w6 := (k34.trans k5).trans k56
  have k46 : Kb 0 w4 w6 := k5.trans k56
  have b36 := (k36.block P3 (Nat.zero_le _) (by omega)).trans b3
  have y0 : w6.cell? ⟨P3, 0, none⟩ = some (.bool ok) := cell_of b36 rfl
  have y1 : w6.cell? ⟨P3, 1, none⟩ = some (.slice pw N qw) := cell_of b36 rfl
  have y2 : w6.cell? ⟨P3, 2, none⟩ = some (.int .i64 P) := cell_of b36 rfl
  have y3 : w6.cell? ⟨P3, 3, none⟩ = some (.int .i64 Q) := cell_of b36 rfl
  have y4 : w6.cell? ⟨P3, 4, none⟩ = some (.slice pv m qv) := cell_of b36 rfl
  have g0 : w6.cell? ⟨P6, 0, none⟩ = some (.bool ok) := cell_of b6 rfl
  have g1 : w6.cell? ⟨P6, 1, none⟩ = some (.slice pg N qg) := cell_of b6 rfl
  have g2 : w6.cell? ⟨P6, 2, none⟩ = some (.int .i64 P) := cell_of b6 rfl
  have g3 : w6.cell? ⟨P6, 3, none⟩ = some (.int .i64 Q) := cell_of b6 rfl
  have g4 : w6.cell? ⟨P6, 4, none⟩ = some (.slice pz m qz) := cell_of b6 rfl
  have HEQ : Hid (∀ (W : World) v u v' u', Jr (⟨N, S, P, Q, m, T⟩ : Jd) W v u → Jr (⟨N, S, P, Q, m, T⟩ : Jd) W v' u' → Calls Try.prog 8 #[.agg #[.bool ok, v, .int .i64 P, .int .i64 Q, u], .agg #[.bool ok, v', .int .i64 P, .int .i64 Q, u']] W fun e w' => e = .returned (.bool true) ∧ Kb 0 W w') := (fun W v u v' u' h h' => eq_jd (J := (⟨N, S, P, Q, m, T⟩ : Jd)) W h h' (show _ ∧ Jb (⟨N, S, P, Q, m, T⟩ : Jd) ∧ _ from HRA).2.1 : ∀ (W : World) v u v' u', _)
  have HE6 := (show ∀ (W : World) v u v' u', _ from HEQ) w6 _ _ _ _ (r5.keep k56) (r3.keep k36)
  have HB : Hid (Kb 0 w w3 ∧ w3.heap[P3]? = some (.cells #[.bool ok, .slice pw N qw, .int .i64 P, .int .i64 Q, .slice pv m qv] 28 (0, 0)) ∧ w3.heap.size = P3 + 1 ∧ Jr (⟨N, S, P, Q, m, T⟩ : Jd) w3 (.slice pw N qw) (.slice pv m qv) ∧ G4 = w3.heap.size ∧ G4 < w4.heap.size ∧ w4.heap.size ≤ w5.heap.size ∧ w6.heap.size = P6 + 1 ∧ P6 = w5.heap.size ∧ w6.heap[P6]? = some (.cells #[.bool ok, .slice pg N qg, .int .i64 P, .int .i64 Q, .slice pz m qz] 28 (0, 0)) ∧ Jr (⟨N, S, P, Q, m, T⟩ : Jd) w5 (.slice pg N qg) (.slice pz m qz) ∧ Jo (⟨N, S, P, Q, m, T⟩ : Jd) w4.heap.size w5.heap.size w5 (.slice pg N qg) (.slice pz m qz) gg bb ∧ Kb 0 w5 w6 ∧ Kb 0 w4 w6) := (⟨k03, b3, z3, r3, hG4, z4, z5, z6, hP6, b6, r5, o5, k56, k46⟩ : _ ∧ _)
  have HX : Hid (Kb 0 w3 w6 ∧ OwnR w6 (.slice (some ⟨G4, 0, none⟩) M.length c4) G4 M.length (fun i => .int .u8 (A i))) := (⟨k36, o4.kb (fun _ => k46.block G4 (Nat.zero_le _) z4)⟩ : _ ∧ _)
  have HW6 : Hid (w6 = w5.alloc (.cells #[.bool ok, .slice pg N qg, .int .i64 P, .int .i64 Q, .slice pz m qz] 28) ∧ P6 = w5.heap.size) := (⟨hw6, hP6⟩ : _ ∧ _)
  clear HI4 k03 b3 z3 r3 hG4 z4 z5 z6 hP6 b6 r5 o5 k56 k46 k34 o4 hw6 z34 k36 b36 HK3 HK4 k5
  go_upto_region 6 with fail
  rw [← (show _ ∧ _ from HW6).1, ← (show _ ∧ _ from HW6).2]
  clear HW6
  go_wp2_with fail
  refine HE6.mono ?_
  rintro e w7 ⟨rfl, k7⟩
  clear HE6 y0 y1 y2 y3 y4 g0 g1 g2 g3 g4
  obtain ⟨k36, o6⟩ := (show _ ∧ _ from HX)
  have k37 := k36.trans k7
  have HT7 := (show ∀ W, Kb 0 w W → _ from HTO) w7 ((show _ ∧ _ from HB).1.trans k37)
  have HX7 : Hid (Kb 0 w3 w7 ∧ Kb 0 w6 w7 ∧ OwnR w7 (.slice (some ⟨G4, 0, none⟩) M.length c4) G4 M.length (fun i => .int .u8 (A i))) := (⟨k37, k7, o6.kb (fun hne => k7.block G4 (Nat.zero_le _) (by have := lt_of_cell (o6.cell 0 (by omega)); omega))⟩ : _ ∧ _)
  clear HX k36 o6 k37 k7
  go_wp2_with fail
  refine HT7.mono ?_
  rintro e w8 ⟨c8, rfl, hc8, o8, k8, z8⟩
  obtain ⟨k37, k67, o7⟩ := (show _ ∧ _ ∧ _ from HX7)
  have o78 : OwnR w8 (.slice (some ⟨G4, 0, none⟩) M.length c4) G4 M.length (fun i => .int .u8 (A i)) := o7.kb (fun hne => k8.block G4 (Nat.zero_le _) (by have := lt_of_cell (o7.cell 0 (by omega)); omega))
  have HE8 := eq_byts w8 o78.row o8.row (show M.length ≤ 1048576 from HN)
  have HX8 : Hid (Kb 0 w3 w8 ∧ Kb 0 w6 w8 ∧ OwnR w8 (.slice (some ⟨G4, 0, none⟩) M.length c4) G4 M.length (fun i => .int .u8 (A i))) := (⟨k37.trans k8, k67.trans k8, o78⟩ : _ ∧ _)
  clear HT7 HX7 k37 k67 o7 o78 o8 k8 z8 hc8
  go_wp2_with fail
  refine HE8.mono ?_
  rintro e w9 ⟨rfl, d9, hw9⟩
  obtain ⟨k38, k68, o8⟩ := (show _ ∧ _ ∧ _ from HX8)
  have k89 : Kb 0 w8 w9 := by rw [hw9]; exact (Kb.refl 0 w8).drewN d9
  have o9 : OwnR w9 (.slice (some ⟨G4, 0, none⟩) M.length c4) G4 M.length (fun i => .int .u8 (A i)) := o8.kb (fun hne => k89.block G4 (Nat.zero_le _) (by have := lt_of_cell (o8.cell 0 (by omega)); omega))
  have HM9 := mark_byts w9 1 o9 (show M.length ≤ 1048576 from HN) (by omega) (by omega)
  have HX9 : Hid (Kb 0 w3 w9 ∧ Kb 0 w6 w9) := (⟨k38.trans k89, k68.trans k89⟩ : _ ∧ _)
  have hk1 : ¬ (1 + (M.length : Int)) < 0 := by omega
  clear HE8 HX8 k38 k68 o8 k89 o9 hw9
  go_wp2_with fail
  refine HM9.mono ?_
  rintro e w10 ⟨rfl, kq10, -⟩
  obtain ⟨k39, k69⟩ := (show _ ∧ _ from HX9)
  obtain ⟨k03, b3, z3, r3, hG4, z4, z5, z6, hP6, b6, r5, o5, k56, k46⟩ := (show _ ∧ _ ∧ _ ∧ _ ∧ _ ∧ _ ∧ _ ∧ _ ∧ _ ∧ _ ∧ _ ∧ _ ∧ _ ∧ _ from HB)
  have k310 : Kb 0 w3 w10 := k39.mkd kq10 (fun q hq => .inr (by omega))
  have k610 : Kb w4.heap.size w6 w10 := (k69.mono (Nat.zero_le _)).mkd kq10 (fun q hq => .inl (by omega))
  have b310 := (k310.block P3 (Nat.zero_le _) (by omega)).trans b3
  have b610 := (k610.block P6 (by omega) (by omega)).trans b6
  have y0 : w10.cell? ⟨P3, 0, none⟩ = some (.bool ok) := cell_of b310 rfl
  have y1 : w10.cell? ⟨P3, 1, none⟩ = some (.slice pw N qw) := cell_of b310 rfl
  have y2 : w10.cell? ⟨P3, 2, none⟩ = some (.int .i64 P) := cell_of b310 rfl
  have y3 : w10.cell? ⟨P3, 3, none⟩ = some (.int .i64 Q) := cell_of b310 rfl
  have y4 : w10.cell? ⟨P3, 4, none⟩ = some (.slice pv m qv) := cell_of b310 rfl
  have g0 : w10.cell? ⟨P6, 0, none⟩ = some (.bool ok) := cell_of b610 rfl
  have g1 : w10.cell? ⟨P6, 1, none⟩ = some (.slice pg N qg) := cell_of b610 rfl
  have g2 : w10.cell? ⟨P6, 2, none⟩ = some (.int .i64 P) := cell_of b610 rfl
  have g3 : w10.cell? ⟨P6, 3, none⟩ = some (.int .i64 Q) := cell_of b610 rfl
  have g4 : w10.cell? ⟨P6, 4, none⟩ = some (.slice pz m qz) := cell_of b610 rfl
  have z610 := k610.size
  have o10 := o5.block (W' := w10) (fun q h1 h2 => (k610.block q h1 (by omega)).trans (k56.block q (Nat.zero_le _) h2))
  have HE10 := (show ∀ (W : World) v u v' u', _ from HEQ) w10 _ _ _ _ (jo_row o5 r5 (fun q h1 h2 => (k610.block q h1 (by omega)).trans (k56.block q (Nat.zero_le _) h2))) (r3.keep k310)
  have HX10 : Hid (Kb 0 w3 w10 ∧ Kb w4.heap.size w6 w10) := (⟨k310, k610⟩ : _ ∧ _)
  clear HM9 HX9 k39 k69 k03 b3 z3 r3 hG4 z4 z5 z6 hP6 b6 r5 o5 k56 k46 k310 k610 b310 b610 kq10 z610 o10
  go_wp2_with fail
  refine HE10.mono ?_
  rintro e w11 ⟨rfl, k11⟩
  clear hk1 hl HE10 y0 y1 y2 y3 y4 g0 g1 g2 g3 g4
  obtain ⟨k310, k610⟩ := (show _ ∧ _ from HX10)
  obtain ⟨k03, b3, z3, r3, hG4, z4, z5, z6, hP6, b6, r5, o5, k56, k46⟩ := (show _ ∧ _ ∧ _ ∧ _ ∧ _ ∧ _ ∧ _ ∧ _ ∧ _ ∧ _ ∧ _ ∧ _ ∧ _ ∧ _ from HB)
  have k311 := k310.trans k11
  have k611 := k610.trans (k11.mono (Nat.zero_le _))
  have b611 := (k611.block P6 (by omega) (by omega)).trans b6
  have g0 : w11.cell? ⟨P6, 0, none⟩ = some (.bool ok) := cell_of b611 rfl
  have g1 : w11.cell? ⟨P6, 1, none⟩ = some (.slice pg N qg) := cell_of b611 rfl
  have g2 : w11.cell? ⟨P6, 2, none⟩ = some (.int .i64 P) := cell_of b611 rfl
  have g3 : w11.cell? ⟨P6, 3, none⟩ = some (.int .i64 Q) := cell_of b611 rfl
  have g4 : w11.cell? ⟨P6, 4, none⟩ = some (.slice pz m qz) := cell_of b611 rfl
  have z611 := k611.size
  have o11 := o5.block (W' := w11) (fun q h1 h2 => (k611.block q h1 (by omega)).trans (k56.block q (Nat.zero_le _) h2))
  have hjb : Jb (⟨N, S, P, Q, m, T⟩ : Jd) := (show _ ∧ Jb (⟨N, S, P, Q, m, T⟩ : Jd) ∧ _ from HRA).2.1
  have HM := mark_jd (ok := ok) w11 o11 (by omega) hjb
  obtain ⟨KG, hKG⟩ : ∃ KG : Int, KG = 1 + (N : Int) + 4 * (m : Int) := ⟨_, rfl⟩
  dsimp only at HM
  rw [← hKG] at HM
  have hKG0 : ¬ KG < 0 := by omega
  have hKG1 : (KG != KG) = false := by simp
  have HKG : Hid (KG = 1 + (N : Int) + 4 * (m : Int)) := hKG
  have HX11 : Hid (Kb 0 w3 w11 ∧ w11.heap[P6]? = some (.cells #[.bool ok, .slice pg N qg, .int .i64 P, .int .i64 Q, .slice pz m qz] 28 (0, 0)) ∧ P6 < w11.heap.size) := (⟨k311, b611, by omega⟩ : _ ∧ _)
  clear HX10 k310 k610 k03 b3 z3 r3 hG4 z4 z5 z6 hP6 b6 r5 o5 k56 k46 k311 k611 b611 z611 o11 k11 hKG hjb
  go_wp2_with fail
  refine HM.mono ?_
  rintro e w12 ⟨rfl, kq12, ml12, ms12⟩
  clear HM g0 g1 g2 g3 g4
  obtain ⟨k311, b611, z11⟩ := (show _ ∧ _ ∧ _ from HX11)
  obtain ⟨k03, b3, z3, r3, hG4, z4, z5, z6, hP6, b6, r5, o5, k56, k46⟩ := (show _ ∧ _ ∧ _ ∧ _ ∧ _ ∧ _ ∧ _ ∧ _ ∧ _ ∧ _ ∧ _ ∧ _ ∧ _ ∧ _ from HB)
  have k312 : Kb 0 w3 w12 := k311.mkd kq12 (fun q hq => .inr (by omega))
  have b612 := (kq12.block P6 z11 (by omega)).trans b611
  have z12 := kq12.size
  have g0 : w12.cell? ⟨P6, 0, none⟩ = some (.bool ok) := cell_of b612 rfl
  have g1 : w12.cell? ⟨P6, 1, none⟩ = some (.slice pg N qg) := cell_of b612 rfl
  have g2 : w12.cell? ⟨P6, 2, none⟩ = some (.int .i64 P) := cell_of b612 rfl
  have g3 : w12.cell? ⟨P6, 3, none⟩ = some (.int .i64 Q) := cell_of b612 rfl
  have g4 : w12.cell? ⟨P6, 4, none⟩ = some (.slice pz m qz) := cell_of b612 rfl
  have hgl := o5.hg
  have hbl := o5.hb
  have hjb : Jb (⟨N, S, P, Q, m, T⟩ : Jd) := (show _ ∧ Jb (⟨N, S, P, Q, m, T⟩ : Jd) ∧ _ from HRA).2.1
  have HH := held_jd (ok := ok) (J := (⟨N, S, P, Q, m, T⟩ : Jd)) w12 ml12 (by omega) ms12 (by omega) hjb
  dsimp only at HH
  rw [← (show KG = _ from HKG)] at HH
  have HX12 : Hid (Kb 0 w3 w12 ∧ w12.heap[P6]? = some (.cells #[.bool ok, .slice pg N qg, .int .i64 P, .int .i64 Q, .slice pz m qz] 28 (0, 0)) ∧ P6 < w12.heap.size ∧ OwnR w12 (.slice pg N qg) gg N (fun i => .string (mtx (1 + i))) ∧ Js.MdV w12 (.slice pz m qz) bb m (1 + (N : Int)) ∧ gg < w12.heap.size ∧ bb < w12.heap.size) := (⟨k312, b612, by omega, ml12, ms12, by omega, by omega⟩ : _ ∧ _)
  clear HX11 k311 b611 z11 k03 b3 z3 r3 hG4 z4 z5 z6 hP6 b6 r5 o5 k56 k46 k312 b612 z12 kq12 ml12 ms12 hgl hbl hjb
  go_wp2_with fail
  refine HH.mono ?_
  rintro e w13 ⟨rfl, k13⟩
  clear HH g0 g1 g2 g3 g4
  obtain ⟨k312, -⟩ := (show _ ∧ _ from HX12)
  have k313 := k312.trans k13
  have HT13 := (show ∀ W, Kb 0 w W → _ from HTO) w13 ((show _ ∧ _ from HB).1.trans k313)
  have HX13 : Hid (Kb 0 w12 w13 ∧ Kb 0 w3 w13) := (⟨k13, k313⟩ : _ ∧ _)
  clear k312 k313 k13
  go_wp2_with fail
  refine HT13.mono ?_
  rintro e w14 ⟨c14, rfl, hc14, o14, k14, z14⟩
  have HI14 := (show ∀ (W : World) (g c' : Nat), _ from HIM) w14 w13.heap.size c14 hc14 o14.cell
  have HX14 : Hid (Kb 0 w12 w14 ∧ Kb 0 w3 w14) := (⟨(show _ ∧ _ from HX13).1.trans k14, (show _ ∧ _ from HX13).2.trans k14⟩ : _ ∧ _)
  clear HT13 HX13 hc14 o14 k14 z14 HTO HIM
  go_wp2_with fail
  refine HI14.mono ?_
  rintro e w15 ⟨ok', J, v15, u15, rfl, ra15, ⟨r15, -⟩, k15⟩
  obtain ⟨k03, b3, z3, r3, hG4, z4, z5, z6, hP6, b6, r5, o5, k56, k46⟩ := (show _ ∧ _ ∧ _ ∧ _ ∧ _ ∧ _ ∧ _ ∧ _ ∧ _ ∧ _ ∧ _ ∧ _ ∧ _ ∧ _ from HB)
  obtain ⟨hok, hJ⟩ := (show _ ∧ _ from HRA).1.uniq ra15
  subst hok
  replace r15 := r15.congr hJ
  have hJp : J.p = P := hJ.p.symm
  have hJq : J.q = Q := hJ.q.symm
  rw [hJp, hJq]
  clear hJ hJp hJq ra15
  obtain ⟨ph, qh, rfl, -⟩ := id r15.1
  obtain ⟨pk, qk, rfl, -⟩ := id r15.2
  dsimp only
  obtain ⟨P16, hP16⟩ : ∃ P16, P16 = w15.heap.size := ⟨_, rfl⟩
  obtain ⟨w16, hw16⟩ : ∃ w16, w16 = w15.alloc (.cells #[.bool ok, .slice ph N qh, .int .i64 P, .int .i64 Q, .slice pk m qk] 28) := ⟨_, rfl⟩
  have k1516 : Kb 0 w15 w16 := by rw [hw16]; exact kb_alloc _ _ _
  have b16 : w16.heap[P16]? = some (.cells #[.bool ok, .slice ph N qh, .int .i64 P, .int .i64 Q, .slice pk m qk] 28 (0, 0)) := by rw [hw16, hP16]; exact alloc_new _ _ _
  obtain ⟨k1214, k314⟩ := (show _ ∧ _ from HX14)
  have k316 := (k314.trans k15).trans k1516
  have k1216 := (k1214.trans k15).trans k1516
  have b316 := (k316.block P3 (Nat.zero_le _) (by omega)).trans b3
  have y0 : w16.cell? ⟨P3, 0, none⟩ = some (.bool ok) := cell_of b316 rfl
  have y1 : w16.cell? ⟨P3, 1, none⟩ = some (.slice pw N qw) := cell_of b316 rfl
  have y2 : w16.cell? ⟨P3, 2, none⟩ = some (.int .i64 P) := cell_of b316 rfl
  have y3 : w16.cell? ⟨P3, 3, none⟩ = some (.int .i64 Q) := cell_of b316 rfl
  have y4 : w16.cell? ⟨P3, 4, none⟩ = some (.slice pv m qv) := cell_of b316 rfl
  have h0 : w16.cell? ⟨P16, 0, none⟩ = some (.bool ok) := cell_of b16 rfl
  have h1 : w16.cell? ⟨P16, 1, none⟩ = some (.slice ph N qh) := cell_of b16 rfl
  have h2 : w16.cell? ⟨P16, 2, none⟩ = some (.int .i64 P) := cell_of b16 rfl
  have h3 : w16.cell? ⟨P16, 3, none⟩ = some (.int .i64 Q) := cell_of b16 rfl
  have h4 : w16.cell? ⟨P16, 4, none⟩ = some (.slice pk m qk) := cell_of b16 rfl
  have HE16 := (show ∀ (W : World) v u v' u', _ from HEQ) w16 _ _ _ _ (r15.keep k1516) (r3.keep k316)
  have HX16 : Hid (Kb 0 w12 w16 ∧ Kb 0 w3 w16) := (⟨k1216, k316⟩ : _ ∧ _)
  have HW16 : Hid (w16 = w15.alloc (.cells #[.bool ok, .slice ph N qh, .int .i64 P, .int .i64 Q, .slice pk m qk] 28) ∧ P16 = w15.heap.size) := (⟨hw16, hP16⟩ : _ ∧ _)
  clear HI14 HX14 k03 b3 z3 r3 hG4 z4 z5 z6 hP6 b6 r5 o5 k56 k46 r15 k15 hw16 hP16 k1516 b16 k1214 k314 k316 k1216 b316 HEQ
  go_upto_region 23 with fail
  rw [← (show _ ∧ _ from HW16).1, ← (show _ ∧ _ from HW16).2]
  clear HW16
  go_wp2_with fail
  refine HE16.mono ?_
  rintro e w17 ⟨rfl, k17⟩
  clear HE16 y0 y1 y2 y3 y4 h0 h1 h2 h3 h4
  obtain ⟨k1216, k316⟩ := (show _ ∧ _ from HX16)
  obtain ⟨k312, b612, z12, ml12, ms12, hg12, hb12⟩ := (show _ ∧ _ ∧ _ ∧ _ ∧ _ ∧ _ ∧ _ from HX12)
  have k1217 := k1216.trans k17
  have b617 := (k1217.block P6 (Nat.zero_le _) z12).trans b612
  have g0 : w17.cell? ⟨P6, 0, none⟩ = some (.bool ok) := cell_of b617 rfl
  have g1 : w17.cell? ⟨P6, 1, none⟩ = some (.slice pg N qg) := cell_of b617 rfl
  have g2 : w17.cell? ⟨P6, 2, none⟩ = some (.int .i64 P) := cell_of b617 rfl
  have g3 : w17.cell? ⟨P6, 3, none⟩ = some (.int .i64 Q) := cell_of b617 rfl
  have g4 : w17.cell? ⟨P6, 4, none⟩ = some (.slice pz m qz) := cell_of b617 rfl
  have z17 := k1217.size
  have hjb : Jb (⟨N, S, P, Q, m, T⟩ : Jd) := (show _ ∧ Jb (⟨N, S, P, Q, m, T⟩ : Jd) ∧ _ from HRA).2.1
  have HH := held_jd (ok := ok) (J := (⟨N, S, P, Q, m, T⟩ : Jd)) w17 (ml12.kb (W' := w17) (fun _ => k1217.block gg (Nat.zero_le _) hg12)) (by omega) (ms12.block (fun _ => k1217.block bb (Nat.zero_le _) hb12)) (by omega) hjb
  dsimp only at HH
  rw [← (show KG = _ from HKG)] at HH
  have HF17 : Hid (Kb 0 w w17) := (show Kb 0 w w3 ∧ _ from HB).1.trans (k316.trans k17)
  clear HX16 k1216 k316 k312 b612 z12 ml12 ms12 hg12 hb12 k1217 b617 z17 k17 HX12 HB HKG HN hjb HRA
  go_wp2_with fail
  refine HH.mono ?_
  rintro e w18 ⟨rfl, k18⟩
  have HF : Hid (Kb 0 w w18) := (show Kb 0 w w17 from HF17).trans k18
  clear HH g0 g1 g2 g3 g4 HF17 k18
  go_wp2_with fail
  go_ret
  exact ⟨rfl, HF⟩
end Go.Proofs.Ytamcnmnaadpfoaa.Fo
