import Derived.Test.YtgpbmmhfhjobkaaBag
namespace Go.Proofs.Ytgpbmmhfhjobkaa
open Go.ChangeShapes Go.WideShapes Go.ChangeAt Go.RowKit
set_option linter.unusedVariables false
theorem bel3 (w : World) (a b c : Obj) : Below w.heap.size w (((w.alloc a).alloc b).alloc c) := (bel2 w a b).alloc (by simp; omega) _
theorem al3 (w : World) (c0 c1 c2 : Array Value) (t0 t1 t2 : TypeId) (W : World) (hW : W = ((w.alloc (.cells c0 t0)).alloc (.cells c1 t1)).alloc (.cells c2 t2)) :
    (∀ j, W.cell? ⟨w.heap.size, j, none⟩ = c0[j]?) ∧ (∀ j, W.cell? ⟨w.heap.size + 1, j, none⟩ = c1[j]?) ∧ (∀ j, W.cell? ⟨w.heap.size + 1 + 1, j, none⟩ = c2[j]?) ∧ (∀ j, W.frozen? ⟨w.heap.size + 1, j, none⟩ = false) ∧ (∀ j, W.frozen? ⟨w.heap.size + 1 + 1, j, none⟩ = false) ∧ W.heap.size = w.heap.size + 1 + 1 + 1 := by
  subst hW
  refine ⟨fun j => ?_, fun j => ?_, fun j => ?_, fun j => ?_, fun j => ?_, by simp⟩
  · rw [World.cell?_alloc_past _ _ _ (by simp; omega), World.cell?_alloc_past _ _ _ (by simp), World.cell?_alloc_at _ _ _ _ rfl]
  · rw [World.cell?_alloc_past _ _ _ (by simp), World.cell?_alloc_at _ _ _ _ (by simp)]
  · rw [World.cell?_alloc_at _ _ _ _ (by simp)]
  · rw [World.frozen?_alloc_past _ _ _ (by simp), World.frozen?_alloc_at _ _ _ _ (by simp)]
  · rw [World.frozen?_alloc_at _ _ _ _ (by simp)]
set_option maxRecDepth 100000 in
set_option maxHeartbeats 4000000 in
theorem to_form {a : Fv} {n1 k1 : Value} {p q : Nat} {A : Nat → ByteArray} {K : Nat → Int} (w : World)
    (h1 : RowV w n1 p (fun i => .string (A i))) (h3 : RowV w k1 q (fun i => .int .i64 (K i))) (hp : p ≤ 1048576) (hq : q ≤ 1048576) :
    Calls Try.prog 21 #[fmv a n1 k1] w fun e w' => ∃ vn vk gn gk, e = .returned (fmv a vn vk) ∧ OwnR w' vn gn p (fun i => .string (A i)) ∧ OwnR w' vk gk q (fun i => .int .i64 (K i)) ∧ w.heap.size ≤ gn ∧ gn < gk ∧ gk < w'.heap.size ∧ Below w.heap.size w w' := by
  unfold fmv
  have g1 : Hid (∀ W', Below w.heap.size w W' → Calls Try.prog 32 #[n1] W' fun e w' => ∃ v, e = .returned v ∧ OwnR w' v W'.heap.size p (fun i => .string (A i)) ∧ Below W'.heap.size W' w' ∧ W'.heap.size < w'.heap.size) := (fun W' hb => to_strs W' (h1.below hb) hp : ∀ W', _)
  have g2 : Hid (∀ W', Below w.heap.size w W' → Calls Try.prog 33 #[k1] W' fun e w' => ∃ v, e = .returned v ∧ OwnR w' v W'.heap.size q (fun i => .int .i64 (K i)) ∧ Below W'.heap.size W' w' ∧ W'.heap.size < w'.heap.size) := (fun W' hb => to_ints W' (h3.below hb) hq : ∀ W', _)
  clear h1 h3 hp hq
  obtain ⟨k, f, t, l, o, m, x⟩ := a
  go_enter Try.func21, Try.ntmps21
  go_wp2_with fail
  obtain ⟨w3, hw3⟩ : ∃ w3, w3 = ((w.alloc (.cells #[.int .i64 k, .int .i64 f, .int .i64 t, .int .i64 l, .int .i64 o, .int .i64 m, .string x, n1, k1] 47)).alloc (.cells #[.int .i64 0, .int .i64 0, .int .i64 0, .int .i64 0, .int .i64 0, .int .i64 0, .string ⟨#[]⟩, .slice none 0 0, .slice none 0 0] 38)).alloc (.cells #[.int .i64 k, .int .i64 f, .int .i64 t, .int .i64 l, .int .i64 o, .int .i64 m, .string x, .slice none 0 0, .slice none 0 0] 38) := ⟨_, rfl⟩
  obtain ⟨r0, r1, r2, s1, s2, z3⟩ := al3 w _ _ _ _ _ _ w3 hw3
  have b3 : Below w.heap.size w w3 := by rw [hw3]; exact bel3 _ _ _ _
  rw [← hw3]
  clear hw3
  refine (g1 _ b3).mono ?_
  rintro e w5 ⟨vn, rfl, hvn, hb5, lt5⟩
  have HL5 : Hid (w3.heap.size < w5.heap.size) := lt5
  clear lt5
  obtain ⟨pn, cn, rfl, hsn⟩ := hvn.sl
  clear hsn g1
  have e0 : ∀ j, w5.cell? ⟨w.heap.size, j, none⟩ = w3.cell? ⟨w.heap.size, j, none⟩ := fun j => hb5.cell (p := ⟨w.heap.size, j, none⟩) (by show w.heap.size < w3.heap.size; omega)
  have e1 : ∀ j, w5.cell? ⟨w.heap.size + 1, j, none⟩ = w3.cell? ⟨w.heap.size + 1, j, none⟩ := fun j => hb5.cell (p := ⟨w.heap.size + 1, j, none⟩) (by show w.heap.size + 1 < w3.heap.size; omega)
  have e2 : ∀ j, w5.cell? ⟨w.heap.size + 1 + 1, j, none⟩ = w3.cell? ⟨w.heap.size + 1 + 1, j, none⟩ := fun j => hb5.cell (p := ⟨w.heap.size + 1 + 1, j, none⟩) (by show w.heap.size + 1 + 1 < w3.heap.size; omega)
  have u1 : ∀ j, w5.frozen? ⟨w.heap.size + 1, j, none⟩ = false := fun j => (hb5.frozen (p := ⟨w.heap.size + 1, j, none⟩) (by show w.heap.size + 1 < w3.heap.size; omega)).trans (s1 j)
  have u2 : ∀ j, w5.frozen? ⟨w.heap.size + 1 + 1, j, none⟩ = false := fun j => (hb5.frozen (p := ⟨w.heap.size + 1 + 1, j, none⟩) (by show w.heap.size + 1 + 1 < w3.heap.size; omega)).trans (s2 j)
  have q8 : w5.cell? ⟨w.heap.size, 8, none⟩ = some k1 := (e0 8).trans (r0 8)
  have o7 : w5.cell? ⟨w.heap.size + 1 + 1, 7, none⟩ = some (.slice none 0 0) := (e2 7).trans (r2 7)
  have f7 := u2 7
  obtain ⟨wa, hwa⟩ : ∃ wa, wa = w5.setCell ⟨w.heap.size + 1 + 1, 7, none⟩ (.slice pn p cn) := ⟨_, rfl⟩
  have za : wa.heap.size = w5.heap.size := by rw [hwa]; simp
  have ba : Below w.heap.size w wa := by rw [hwa]; exact (b3.trans (hb5.mono (by omega))).setCell (by show w.heap.size ≤ w.heap.size + 1 + 1; omega) _
  have HV : Hid (OwnR w5 (.slice pn p cn) w3.heap.size p (fun i => .string (A i)) ∧ Below w3.heap.size w3 w5 ∧ w3.heap.size = w.heap.size + 1 + 1 + 1 ∧ wa.heap.size = w5.heap.size ∧ Below w.heap.size w wa ∧ wa = w5.setCell ⟨w.heap.size + 1 + 1, 7, none⟩ (.slice pn p cn)) := (⟨hvn, hb5, z3, za, ba, hwa⟩ : _ ∧ _ ∧ _ ∧ _ ∧ _ ∧ _)
  have HC : Hid ((∀ j, w5.cell? ⟨w.heap.size + 1, j, none⟩ = (#[.int .i64 0, .int .i64 0, .int .i64 0, .int .i64 0, .int .i64 0, .int .i64 0, .string ⟨#[]⟩, .slice none 0 0, .slice none 0 0] : Array Value)[j]?) ∧ (∀ j, w5.cell? ⟨w.heap.size + 1 + 1, j, none⟩ = (#[.int .i64 k, .int .i64 f, .int .i64 t, .int .i64 l, .int .i64 o, .int .i64 m, .string x, .slice none 0 0, .slice none 0 0] : Array Value)[j]?) ∧ (∀ j, w5.frozen? ⟨w.heap.size + 1, j, none⟩ = false) ∧ (∀ j, w5.frozen? ⟨w.heap.size + 1 + 1, j, none⟩ = false)) := (⟨fun j => (e1 j).trans (r1 j), fun j => (e2 j).trans (r2 j), u1, u2⟩ : _ ∧ _ ∧ _ ∧ _)
  clear hvn hb5 e0 e1 e2 u1 u2 r0 r1 r2 s1 s2 z3 b3 za ba hwa
  go_wp2_with fail
  have HV' := (show OwnR w5 (.slice pn p cn) w3.heap.size p (fun i => .string (A i)) ∧ Below w3.heap.size w3 w5 ∧ w3.heap.size = w.heap.size + 1 + 1 + 1 ∧ wa.heap.size = w5.heap.size ∧ Below w.heap.size w wa ∧ wa = w5.setCell ⟨w.heap.size + 1 + 1, 7, none⟩ (.slice pn p cn) from HV)
  obtain ⟨hvn, hb5, z3, za, ba, hwa⟩ := HV'
  obtain ⟨e1, e2, u1, u2⟩ := (show (∀ j, w5.cell? ⟨w.heap.size + 1, j, none⟩ = (#[.int .i64 0, .int .i64 0, .int .i64 0, .int .i64 0, .int .i64 0, .int .i64 0, .string ⟨#[]⟩, .slice none 0 0, .slice none 0 0] : Array Value)[j]?) ∧ (∀ j, w5.cell? ⟨w.heap.size + 1 + 1, j, none⟩ = (#[.int .i64 k, .int .i64 f, .int .i64 t, .int .i64 l, .int .i64 o, .int .i64 m, .string x, .slice none 0 0, .slice none 0 0] : Array Value)[j]?) ∧ (∀ j, w5.frozen? ⟨w.heap.size + 1, j, none⟩ = false) ∧ (∀ j, w5.frozen? ⟨w.heap.size + 1 + 1, j, none⟩ = false) from HC)
  have z5 := hb5.size
  rw [← hwa]
  refine (g2 _ ba).mono ?_
  rintro e w6 ⟨vk, rfl, hvk, hb6, lt6⟩
  have HL6 : Hid (wa.heap.size < w6.heap.size) := lt6
  clear lt6
  obtain ⟨pk, ck, rfl, hsk⟩ := hvk.sl
  clear hsk g2 HV HC
  have y1 : ∀ j, w6.cell? ⟨w.heap.size + 1, j, none⟩ = w5.cell? ⟨w.heap.size + 1, j, none⟩ := fun j => by
    rw [hb6.cell (p := ⟨w.heap.size + 1, j, none⟩) (by show w.heap.size + 1 < wa.heap.size; omega), hwa]
    exact World.cell?_setCell_other _ _ _ _ (fun e => by have := congrArg Addr.block e; simp at this)
  have y2 : ∀ j, j ≠ 7 → w6.cell? ⟨w.heap.size + 1 + 1, j, none⟩ = w5.cell? ⟨w.heap.size + 1 + 1, j, none⟩ := fun j hj => by
    rw [hb6.cell (p := ⟨w.heap.size + 1 + 1, j, none⟩) (by show w.heap.size + 1 + 1 < wa.heap.size; omega), hwa]
    exact set_ne _ _ _ _ _ hj
  have x7 : w6.cell? ⟨w.heap.size + 1 + 1, 7, none⟩ = some (.slice pn p cn) := by
    rw [hb6.cell (p := ⟨w.heap.size + 1 + 1, 7, none⟩) (by show w.heap.size + 1 + 1 < wa.heap.size; omega), hwa]
    exact set_eq _ _ _ _ _ o7
  have a0 : w6.cell? ⟨w.heap.size + 1, 0, none⟩ = some (.int .i64 0) := (y1 0).trans (e1 0)
  have x0 : w6.cell? ⟨w.heap.size + 1 + 1, 0, none⟩ = some (.int .i64 k) := (y2 0 (by omega)).trans (e2 0)
  have a1 : w6.cell? ⟨w.heap.size + 1, 1, none⟩ = some (.int .i64 0) := (y1 1).trans (e1 1)
  have x1 : w6.cell? ⟨w.heap.size + 1 + 1, 1, none⟩ = some (.int .i64 f) := (y2 1 (by omega)).trans (e2 1)
  have a2 : w6.cell? ⟨w.heap.size + 1, 2, none⟩ = some (.int .i64 0) := (y1 2).trans (e1 2)
  have x2 : w6.cell? ⟨w.heap.size + 1 + 1, 2, none⟩ = some (.int .i64 t) := (y2 2 (by omega)).trans (e2 2)
  have a3 : w6.cell? ⟨w.heap.size + 1, 3, none⟩ = some (.int .i64 0) := (y1 3).trans (e1 3)
  have x3 : w6.cell? ⟨w.heap.size + 1 + 1, 3, none⟩ = some (.int .i64 l) := (y2 3 (by omega)).trans (e2 3)
  have a4 : w6.cell? ⟨w.heap.size + 1, 4, none⟩ = some (.int .i64 0) := (y1 4).trans (e1 4)
  have x4 : w6.cell? ⟨w.heap.size + 1 + 1, 4, none⟩ = some (.int .i64 o) := (y2 4 (by omega)).trans (e2 4)
  have a5 : w6.cell? ⟨w.heap.size + 1, 5, none⟩ = some (.int .i64 0) := (y1 5).trans (e1 5)
  have x5 : w6.cell? ⟨w.heap.size + 1 + 1, 5, none⟩ = some (.int .i64 m) := (y2 5 (by omega)).trans (e2 5)
  have a6 : w6.cell? ⟨w.heap.size + 1, 6, none⟩ = some (.string ⟨#[]⟩) := (y1 6).trans (e1 6)
  have x6 : w6.cell? ⟨w.heap.size + 1 + 1, 6, none⟩ = some (.string x) := (y2 6 (by omega)).trans (e2 6)
  have a7 : w6.cell? ⟨w.heap.size + 1, 7, none⟩ = some (.slice none 0 0) := (y1 7).trans (e1 7)
  have a8 : w6.cell? ⟨w.heap.size + 1, 8, none⟩ = some (.slice none 0 0) := (y1 8).trans (e1 8)
  have x8 : w6.cell? ⟨w.heap.size + 1 + 1, 8, none⟩ = some (.slice none 0 0) := (y2 8 (by omega)).trans (e2 8)
  have v1 : ∀ j, w6.frozen? ⟨w.heap.size + 1, j, none⟩ = false := fun j => by
    rw [hb6.frozen (p := ⟨w.heap.size + 1, j, none⟩) (by show w.heap.size + 1 < wa.heap.size; omega), hwa]
    simp [u1 j]
  have v2 : w6.frozen? ⟨w.heap.size + 1 + 1, 8, none⟩ = false := by
    rw [hb6.frozen (p := ⟨w.heap.size + 1 + 1, 8, none⟩) (by show w.heap.size + 1 + 1 < wa.heap.size; omega), hwa]
    simp [u2 8]
  have HE : Hid (OwnR w5 (.slice pn p cn) w3.heap.size p (fun i => .string (A i)) ∧ OwnR w6 (.slice pk q ck) wa.heap.size q (fun i => .int .i64 (K i)) ∧ Below wa.heap.size wa w6 ∧ Below w.heap.size w wa ∧ wa = w5.setCell ⟨w.heap.size + 1 + 1, 7, none⟩ (.slice pn p cn) ∧ w3.heap.size = w.heap.size + 1 + 1 + 1 ∧ w3.heap.size ≤ w5.heap.size) := (⟨hvn, hvk, hb6, ba, hwa, z3, z5⟩ : _ ∧ _ ∧ _ ∧ _ ∧ _ ∧ _ ∧ _)
  clear hvn hvk hb6 ba hwa z3 z5 za hb5 e1 e2 u1 u2 y1 y2 q8 o7 f7
  go_wp2_with fail
  refine bodyPost_ret (by simp [results, Try.results21, go_sem, a0, a1, a2, a3, a4, a5, a6, a7, a8]; rfl) rfl ?_
  obtain ⟨hvn, hvk, hb6, ba, hwa, z3, z5⟩ := (show OwnR w5 (.slice pn p cn) w3.heap.size p (fun i => .string (A i)) ∧ OwnR w6 (.slice pk q ck) wa.heap.size q (fun i => .int .i64 (K i)) ∧ Below wa.heap.size wa w6 ∧ Below w.heap.size w wa ∧ wa = w5.setCell ⟨w.heap.size + 1 + 1, 7, none⟩ (.slice pn p cn) ∧ w3.heap.size = w.heap.size + 1 + 1 + 1 ∧ w3.heap.size ≤ w5.heap.size from HE)
  clear HE a0 a1 a2 a3 a4 a5 a6 a7 a8 x0 x1 x2 x3 x4 x5 x6 x7 x8 v1 v2
  have za : wa.heap.size = w5.heap.size := by rw [hwa]; simp
  have hq := ((((((((((Kq.refl (fun k => k = w.heap.size + 1 ∨ k = w.heap.size + 1 + 1) w6).setCell ⟨w.heap.size + 1 + 1, 8, none⟩ (Or.inr rfl) (.slice pk q ck)).setCell ⟨w.heap.size + 1, 0, none⟩ (Or.inl rfl) (.int .i64 k)).setCell ⟨w.heap.size + 1, 1, none⟩ (Or.inl rfl) (.int .i64 f)).setCell ⟨w.heap.size + 1, 2, none⟩ (Or.inl rfl) (.int .i64 t)).setCell ⟨w.heap.size + 1, 3, none⟩ (Or.inl rfl) (.int .i64 l)).setCell ⟨w.heap.size + 1, 4, none⟩ (Or.inl rfl) (.int .i64 o)).setCell ⟨w.heap.size + 1, 5, none⟩ (Or.inl rfl) (.int .i64 m)).setCell ⟨w.heap.size + 1, 6, none⟩ (Or.inl rfl) (.string x)).setCell ⟨w.heap.size + 1, 7, none⟩ (Or.inl rfl) (.slice pn p cn)).setCell ⟨w.heap.size + 1, 8, none⟩ (Or.inl rfl) (.slice pk q ck)
  generalize World.setCell _ (⟨w.heap.size + 1, 8, none⟩ : Addr) (Value.slice pk q ck) = wf at hq ⊢
  have zw := ba.size
  have z6 := hb6.size
  have zf := hq.size
  have l5 : w3.heap.size < w5.heap.size := HL5
  have l6 : wa.heap.size < w6.heap.size := HL6
  refine ⟨_, _, w3.heap.size, wa.heap.size, rfl, hvn.block ?_, hvk.block ?_, by omega, ?_, by omega, ?_⟩
  · intro hp
    have hl := lt_of_cell (hvn.cell 0 hp)
    rw [hq.block _ (by omega) (by omega), hb6.block _ (by omega), hwa]
    exact Below.heap_setCell _ _ _ _ (by show w3.heap.size ≠ w.heap.size + 1 + 1; omega)
  · intro hp
    exact hq.block _ (lt_of_cell (hvk.cell 0 hp)) (by omega)
  · omega
  · exact ⟨hq.os.trans (hb6.os.trans ba.os), hq.tape.trans (hb6.tape.trans ba.tape), hq.output.trans (hb6.output.trans ba.output), by omega, fun j hj => (hq.block j (by omega) (by omega)).trans ((hb6.block j (by omega)).trans (ba.block j hj))⟩
end Go.Proofs.Ytgpbmmhfhjobkaa
