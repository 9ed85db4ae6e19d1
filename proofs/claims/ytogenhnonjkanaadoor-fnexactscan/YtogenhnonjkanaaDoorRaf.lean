import Derived.Test.YtogenhnonjkanaaDoorRae
namespace Go.Proofs.YtogenhnonjkanaaDoor.Rd
open Go.ChangeShapes Go.WideShapes Go.ChangeAt Go.RowKit Go.Proofs.YtogenhnonjkanaaDoor
set_option linter.unusedVariables false
theorem Kept.trans {a b c : World} (h : Kept a b) (g : Kept b c) : Kept a c := World.keptBut_trans h g
theorem Kept.set {W w' : World} (h : Kept W w') {a : Addr} (ha : W.heap.size ≤ a.block) (v : Value) : Kept W (w'.setCell a v) := by
  obtain ⟨h1, h2, h3⟩ := h
  refine ⟨h1, h2, fun i hi => ?_⟩
  have e : (w'.setCell a v).heap[i]? = w'.heap[i]? := by
    simp only [World.setCell, Array.getElem?_modify]
    rw [if_neg (by omega)]
  rw [e]
  exact h3 i hi
/-- the number, or some error -/
inductive Told22 (p : Int × Int) : Ending → Prop
  | ok {z : Int} (h : p = (0, z)) : Told22 p (.returned (.tuple #[.int .i64 z, .nilIface]))
  | err (h : p = (3, 0)) (s : Int) (t : TypeId) (v : Value) : Told22 p (.returned (.tuple #[.int .i64 s, .iface t v]))
theorem sc_start (T : ByteArray) (w : World) : Sc w w.heap.size (w.heap.size + 1) T ((0 : Nat) : Int) ((w.alloc (.cells #[.int .i64 0, .int .i64 0] 94)).alloc (.cells #[.string T, .int .i64 0] 40)) := by
  refine ⟨Grown.alloc (Grown.alloc (Grown.refl w) _ _) _ _, by omega, by omega, by omega, by simp, by simp, by simp, by simp, ?_, ?_, ?_⟩
  all_goals simp
set_option maxRecDepth 100000 in
set_option maxHeartbeats 2000000 in
theorem impl_read_empty (b : Nat) (hb : 2 ≤ b) (hb2 : b ≤ 36) (T : ByteArray) (hlen : T.size ≤ 1200) (j k1 : Nat) (X : ByteArray)
    (H19 : ∀ {w0 : World} {A B : Nat} (w : World), Sc w0 A B T ((0 : Nat) : Int) w → Calls Tryd.prog 79 #[.pointer (some ⟨B, 0, none⟩)] w fun e w' => (∃ z, e = .returned (.bool z)) ∧ Sc w0 A B T (j : Int) w')
    (H20 : ∀ {w0 : World} {A B : Nat} (w : World), Sc w0 A B T (j : Int) w → Calls Tryd.prog 77 #[.pointer (some ⟨B, 0, none⟩), .int .i64 (b : Int)] w fun e w' => e = .returned (.string X) ∧ Sc w0 A B T (k1 : Int) w') (hX : X = ⟨#[]⟩) (w : World) :
    Calls Tryd.prog 80 #[.string T, .int .i64 (b : Int)] w fun e w' => e = .returned (whole (2, 0)) ∧ Kept w w' := by
  subst hX
  have HB := is_base (b : Int) true (by simp; omega)
  have hs := sc_start T w
  have h19 := H19 (w0 := w) (A := w.heap.size) (B := w.heap.size + 1)
  have h20 := H20 (w0 := w) (A := w.heap.size) (B := w.heap.size + 1)
  clear H19 H20
  go_enter Tryd.func80, Tryd.ntmps80
  go_wp2_with fail
  refine (HB _).mono ?_
  rintro e w' ⟨rfl, hw⟩
  subst hw
  clear HB
  go_wp2_with fail
  refine (h19 _ hs).mono ?_
  rintro e w1 ⟨⟨z, rfl⟩, s1⟩
  clear h19 hs
  go_wp2_with fail
  refine (h20 _ s1).mono ?_
  rintro e w2 ⟨rfl, s2⟩
  clear h20 s1
  have a0 := s2.a0
  have a1 := s2.a1
  have f0 := s2.fA0
  have f1 := s2.fA1
  have hk : Kept w w2 := s2.gr.1
  clear s2
  have e0 : ∀ v : Value, (w2.setCell ⟨w.heap.size, 0, none⟩ v).cell? ⟨w.heap.size, 0, none⟩ = some v := fun v => World.cell?_setCell_same _ _ _ a0
  have e1 : ∀ v u : Value, ((w2.setCell ⟨w.heap.size, 0, none⟩ v).setCell ⟨w.heap.size, 1, none⟩ u).cell? ⟨w.heap.size, 1, none⟩ = some u := fun v u => World.cell?_setCell_same _ _ _ (by rw [World.cell?_setCell_other _ _ _ _ (by simp)]; exact a1)
  go_wp2_with fail
  refine bodyPost_ret (by simp [results, Tryd.results80, go_sem, e0, e1]; try rfl) rfl ?_
  refine ⟨rfl, Kept.set (Kept.set hk (Nat.le_refl _) _) (Nat.le_refl _) _⟩
set_option maxRecDepth 100000 in
set_option maxHeartbeats 2000000 in
theorem impl_read_bad (b : Nat) (hb : 2 ≤ b) (hb2 : b ≤ 36) (T : ByteArray) (hlen : T.size ≤ 1200) (j k1 : Nat) (X : ByteArray)
    (H19 : ∀ {w0 : World} {A B : Nat} (w : World), Sc w0 A B T ((0 : Nat) : Int) w → Calls Tryd.prog 79 #[.pointer (some ⟨B, 0, none⟩)] w fun e w' => (∃ z, e = .returned (.bool z)) ∧ Sc w0 A B T (j : Int) w')
    (H20 : ∀ {w0 : World} {A B : Nat} (w : World), Sc w0 A B T (j : Int) w → Calls Tryd.prog 77 #[.pointer (some ⟨B, 0, none⟩), .int .i64 (b : Int)] w fun e w' => e = .returned (.string X) ∧ Sc w0 A B T (k1 : Int) w') (hX : X.toList.isEmpty = false) (hk1 : k1 ≠ T.size) (w : World) :
    Calls Tryd.prog 80 #[.string T, .int .i64 (b : Int)] w fun e w' => e = .returned (whole (2, 0)) ∧ Kept w w' := by
  have HB := is_base (b : Int) true (by simp; omega)
  have hs := sc_start T w
  have h19 := H19 (w0 := w) (A := w.heap.size) (B := w.heap.size + 1)
  have h20 := H20 (w0 := w) (A := w.heap.size) (B := w.heap.size + 1)
  clear H19 H20
  go_enter Tryd.func80, Tryd.ntmps80
  go_wp2_with fail
  refine (HB _).mono ?_
  rintro e w' ⟨rfl, hw⟩
  subst hw
  clear HB
  go_wp2_with fail
  refine (h19 _ hs).mono ?_
  rintro e w1 ⟨⟨z, rfl⟩, s1⟩
  clear h19 hs
  go_wp2_with fail
  refine (h20 _ s1).mono ?_
  rintro e w2 ⟨rfl, s2⟩
  clear h20 s1
  have a0 := s2.a0
  have a1 := s2.a1
  have f0 := s2.fA0
  have f1 := s2.fA1
  have hk : Kept w w2 := s2.gr.1
  have h21 := ended_run (w.heap.size + 1) T (k1 : Int) false (by simp; omega) w2 s2.b0 s2.b1
  clear s2
  go_wp2_with fail
  refine h21.mono ?_
  rintro e w3 ⟨rfl, m, hw3⟩
  clear h21
  replace a0 : w3.cell? ⟨w.heap.size, 0, none⟩ = some (.int .i64 0) := by rw [hw3]; exact a0
  replace a1 : w3.cell? ⟨w.heap.size, 1, none⟩ = some (.int .i64 0) := by rw [hw3]; exact a1
  replace f0 : w3.frozen? ⟨w.heap.size, 0, none⟩ = false := by rw [hw3]; exact f0
  replace f1 : w3.frozen? ⟨w.heap.size, 1, none⟩ = false := by rw [hw3]; exact f1
  replace hk : Kept w w3 := by rw [hw3]; exact hk
  clear hw3
  have e0 : ∀ v : Value, (w3.setCell ⟨w.heap.size, 0, none⟩ v).cell? ⟨w.heap.size, 0, none⟩ = some v := fun v => World.cell?_setCell_same _ _ _ a0
  have e1 : ∀ v u : Value, ((w3.setCell ⟨w.heap.size, 0, none⟩ v).setCell ⟨w.heap.size, 1, none⟩ u).cell? ⟨w.heap.size, 1, none⟩ = some u := fun v u => World.cell?_setCell_same _ _ _ (by rw [World.cell?_setCell_other _ _ _ _ (by simp)]; exact a1)
  go_wp2_with fail
  refine bodyPost_ret (by simp [results, Tryd.results80, go_sem, e0, e1]; try rfl) rfl ?_
  refine ⟨rfl, Kept.set (Kept.set hk (Nat.le_refl _) _) (Nat.le_refl _) _⟩
set_option maxRecDepth 100000 in
set_option maxHeartbeats 2000000 in
theorem impl_read_good (b : Nat) (hb : 2 ≤ b) (hb2 : b ≤ 36) (T : ByteArray) (hlen : T.size ≤ 1200) (j k1 : Nat) (X : ByteArray)
    (H19 : ∀ {w0 : World} {A B : Nat} (w : World), Sc w0 A B T ((0 : Nat) : Int) w → Calls Tryd.prog 79 #[.pointer (some ⟨B, 0, none⟩)] w fun e w' => (∃ z, e = .returned (.bool z)) ∧ Sc w0 A B T (j : Int) w')
    (H20 : ∀ {w0 : World} {A B : Nat} (w : World), Sc w0 A B T (j : Int) w → Calls Tryd.prog 77 #[.pointer (some ⟨B, 0, none⟩), .int .i64 (b : Int)] w fun e w' => e = .returned (.string X) ∧ Sc w0 A B T (k1 : Int) w') (hX : X.toList.isEmpty = false) (hk1 : k1 = T.size) (p : Int × Int) (ev : Value)
    (H22 : ∀ W : World, W.cell? ⟨7, 0, none⟩ = some ev → Calls Tryd.prog 92 #[.string T, .int .i64 (b : Int), .int .i64 64] W fun e w' => Told22 p e ∧ Below W.heap.size W w')
    (w : World) (hv : w.cell? ⟨7, 0, none⟩ = some ev) :
    Calls Tryd.prog 80 #[.string T, .int .i64 (b : Int)] w fun e w' => e = .returned (whole p) ∧ Kept w w' := by
  have HB := is_base (b : Int) true (by simp; omega)
  have hs := sc_start T w
  have h19 := H19 (w0 := w) (A := w.heap.size) (B := w.heap.size + 1)
  have h20 := H20 (w0 := w) (A := w.heap.size) (B := w.heap.size + 1)
  clear H19 H20
  go_enter Tryd.func80, Tryd.ntmps80
  go_wp2_with fail
  refine (HB _).mono ?_
  rintro e w' ⟨rfl, hw⟩
  subst hw
  clear HB
  go_wp2_with fail
  refine (h19 _ hs).mono ?_
  rintro e w1 ⟨⟨z, rfl⟩, s1⟩
  clear h19 hs
  go_wp2_with fail
  refine (h20 _ s1).mono ?_
  rintro e w2 ⟨rfl, s2⟩
  clear h20 s1
  have a0 := s2.a0
  have a1 := s2.a1
  have f0 := s2.fA0
  have f1 := s2.fA1
  have hk : Kept w w2 := s2.gr.1
  have h21 := ended_run (w.heap.size + 1) T (k1 : Int) true (by simp; omega) w2 s2.b0 s2.b1
  clear s2 hk1
  go_wp2_with fail
  refine h21.mono ?_
  rintro e w3 ⟨rfl, m, hw3⟩
  clear h21
  replace a0 : w3.cell? ⟨w.heap.size, 0, none⟩ = some (.int .i64 0) := by rw [hw3]; exact a0
  replace a1 : w3.cell? ⟨w.heap.size, 1, none⟩ = some (.int .i64 0) := by rw [hw3]; exact a1
  replace f0 : w3.frozen? ⟨w.heap.size, 0, none⟩ = false := by rw [hw3]; exact f0
  replace f1 : w3.frozen? ⟨w.heap.size, 1, none⟩ = false := by rw [hw3]; exact f1
  replace hk : Kept w w3 := by rw [hw3]; exact hk
  clear hw3
  have h22 := H22 w3 (by rw [World.keptBut.cell hk (lt_of_cell hv) (fun f => f)]; exact hv)
  clear H22 hv
  go_wp2_with fail
  refine h22.mono ?_
  rintro e w4 ⟨ht, hbel⟩
  have hA : w.heap.size < w3.heap.size := lt_of_cell a0
  replace a0 : w4.cell? ⟨w.heap.size, 0, none⟩ = some (.int .i64 0) := (hbel.cell hA).trans a0
  replace a1 : w4.cell? ⟨w.heap.size, 1, none⟩ = some (.int .i64 0) := (hbel.cell hA).trans a1
  replace f0 : w4.frozen? ⟨w.heap.size, 0, none⟩ = false := by rw [← f0]; simp only [World.frozen?, hbel.block _ hA]
  replace f1 : w4.frozen? ⟨w.heap.size, 1, none⟩ = false := by rw [← f1]; simp only [World.frozen?, hbel.block _ hA]
  replace hk : Kept w w4 := Kept.trans hk (hbel.frame _)
  clear hbel h22 hA
  cases ht with
  | ok h =>
    subst h
    have e0 : ∀ v : Value, (w4.setCell ⟨w.heap.size, 0, none⟩ v).cell? ⟨w.heap.size, 0, none⟩ = some v := fun v => World.cell?_setCell_same _ _ _ a0
    have e1 : ∀ v u : Value, ((w4.setCell ⟨w.heap.size, 0, none⟩ v).setCell ⟨w.heap.size, 1, none⟩ u).cell? ⟨w.heap.size, 1, none⟩ = some u := fun v u => World.cell?_setCell_same _ _ _ (by rw [World.cell?_setCell_other _ _ _ _ (by simp)]; exact a1)
    go_wp2_with fail
    refine bodyPost_ret (by simp [results, Tryd.results80, go_sem, e0, e1]; try rfl) rfl ?_
    refine ⟨rfl, Kept.set (Kept.set hk (Nat.le_refl _) _) (Nat.le_refl _) _⟩
  | err h s t v =>
    subst h
    have e0 : ∀ v : Value, (w4.setCell ⟨w.heap.size, 0, none⟩ v).cell? ⟨w.heap.size, 0, none⟩ = some v := fun v => World.cell?_setCell_same _ _ _ a0
    have e1 : ∀ v u : Value, ((w4.setCell ⟨w.heap.size, 0, none⟩ v).setCell ⟨w.heap.size, 1, none⟩ u).cell? ⟨w.heap.size, 1, none⟩ = some u := fun v u => World.cell?_setCell_same _ _ _ (by rw [World.cell?_setCell_other _ _ _ _ (by simp)]; exact a1)
    go_wp2_with fail
    refine bodyPost_ret (by simp [results, Tryd.results80, go_sem, e0, e1]; try rfl) rfl ?_
    refine ⟨rfl, Kept.set (Kept.set hk (Nat.le_refl _) _) (Nat.le_refl _) _⟩
set_option maxRecDepth 100000 in
set_option maxHeartbeats 2000000 in
theorem impl_read_none (b : Int) (T : ByteArray) (h : b < 2 ∨ 36 < b ∨ 1200 < (T.size : Int)) (w : World) :
    Calls Tryd.prog 80 #[.string T, .int .i64 b] w fun e w' => e = .returned (whole (1, 0)) ∧ Kept w w' := by
  by_cases hb : b < 2 ∨ 36 < b
  · have HB := is_base b false (by simp; omega)
    clear h hb
    go_enter Tryd.func80, Tryd.ntmps80
    go_wp2_with fail
    refine (HB _).mono ?_
    rintro e w' ⟨rfl, hw⟩
    subst hw
    clear HB
    go_wp2_with fail
    go_returns
    exact ⟨rfl, (show Grown w _ by go_grown).1⟩
  · have HB := is_base b true (by simp; omega)
    have h3 : 1200 < (T.size : Int) := by omega
    clear h hb
    go_enter Tryd.func80, Tryd.ntmps80
    go_wp2_with fail
    refine (HB _).mono ?_
    rintro e w' ⟨rfl, hw⟩
    subst hw
    clear HB
    go_wp2_with fail
    go_returns
    exact ⟨rfl, (show Grown w _ by go_grown).1⟩
end Go.Proofs.YtogenhnonjkanaaDoor.Rd
