import Derived.Test.YtgpbmmhfhjobkaaBat
namespace Go.Proofs.Ytgpbmmhfhjobkaa
open Go.ChangeShapes Go.WideShapes Go.ChangeAt Go.RowKit
set_option linter.unusedVariables false
theorem RowF.below {W W' : World} {v : Value} {n : Nat} {F : Nat → Gv} (h : RowF W v n F) (hb : Below W.heap.size W W') : RowF W' v n F := by
  obtain ⟨pa, cap, h1, h2⟩ := h
  refine ⟨pa, cap, h1, fun hn => ?_⟩
  obtain ⟨a, e1, e2, e3⟩ := h2 hn
  exact ⟨a, e1, e2, fun i hi => (e3 i hi).below hb⟩
set_option maxRecDepth 100000 in
theorem sz_sheet {v : Value} {n : Nat} {F : Nat → Gv} (w : World) (ha : RowF w v n F) (hn : (n : Int) < 140737488355328)
    (hF : ∀ i, i < n → ((F i).a.x.size : Int) < 140737488355328 ∧ ((F i).p : Int) < 140737488355328 ∧ (∀ j, j < (F i).p → (((F i).A j).size : Int) < 140737488355328) ∧ ((F i).q : Int) < 140737488355328) :
    Calls Try.prog 4 #[.agg #[v], .int .i64 1048576] w fun e w' => ∃ r : Int, e = .returned (.int .i64 r) ∧ (0 ≤ r → (n : Int) + (smr F n : Int) ≤ 1048576) ∧ -1 ≤ r ∧ r ≤ 1048576 ∧ Below w.heap.size w w' := by
  have hs : Hid (∀ o : Obj, Calls Try.prog 11 #[v, .int .i64 1048576] (w.alloc o) fun e w' => ∃ r : Int, e = .returned (.int .i64 r) ∧ (0 ≤ r → (n : Int) + (smr F n : Int) ≤ 1048576) ∧ -1 ≤ r ∧ r ≤ 1048576 ∧ Below (w.alloc o).heap.size (w.alloc o) w') := (fun o => sz_forms (w.alloc o) 1048576 (ha.below (bel1 _ _)) hn hF (by omega) (by omega) : ∀ o : Obj, _)
  obtain ⟨pa, ca, rfl, _⟩ := ha
  clear hn hF
  go_enter Try.func4, Try.ntmps4
  go_wp2_with fail
  refine (hs _).mono ?_
  rintro e w1 ⟨r, rfl, h1, h2, h3, hb⟩
  have HB : Hid ((0 ≤ r → (n : Int) + (smr F n : Int) ≤ 1048576) ∧ Below w.heap.size w w1) := (⟨h1, (bel1 w _).trans (hb.mono (by simp))⟩ : _ ∧ _)
  clear hs h1 hb
  rcases Int.lt_or_le r 0 with h | h
  · go_wp2_with fail
    go_ret
    exact ⟨-1, rfl, fun f => by omega, by omega, by omega, HB.2⟩
  · have h' : ¬ r < 0 := by omega
    go_wp2_with fail
    go_ret
    exact ⟨r, rfl, HB.1, h2, h3, HB.2⟩
set_option maxRecDepth 100000 in
theorem to_sheet {va : Value} {n : Nat} {F : Nat → Gv} (w : World) (ha : RowF w va n F) (hn : n + smr F n ≤ 1048576) :
    Calls Try.prog 6 #[.agg #[va]] w fun e w' => ∃ v g t, e = .returned (.agg #[v]) ∧ OwnF w' v g n F t w.heap.size w'.heap.size ∧ Below w.heap.size w w' := by
  have hs : Hid (∀ a b c : Obj, Calls Try.prog 13 #[va] (((w.alloc a).alloc b).alloc c) fun e w' => ∃ v g t, e = .returned v ∧ OwnF w' v g n F t (((w.alloc a).alloc b).alloc c).heap.size w'.heap.size ∧ Below (((w.alloc a).alloc b).alloc c).heap.size (((w.alloc a).alloc b).alloc c) w') := (fun a b c => to_forms _ (ha.below (bel3 _ _ _ _)) hn : ∀ a b c : Obj, _)
  obtain ⟨pa, ca, rfl, _⟩ := ha
  clear hn
  go_enter Try.func6, Try.ntmps6
  go_wp2_with fail
  refine (hs _ _ _).mono ?_
  rintro e w1 ⟨v, g, t, rfl, ho, hb⟩
  obtain ⟨w3, hw3⟩ : ∃ w3, w3 = ((w.alloc (.cells #[.slice pa n ca] 24)).alloc (.cells #[.slice none 0 0] 28)).alloc (.cells #[.slice none 0 0] 28) := ⟨_, rfl⟩
  obtain ⟨r0, r1, r2, s1, s2, z3⟩ := al3 w _ _ _ _ _ _ w3 hw3
  have b3 : Below w.heap.size w w3 := by rw [hw3]; exact bel3 _ _ _ _
  rw [← hw3] at ho hb
  have hz := hb.size
  have c1 : w1.cell? ⟨w.heap.size + 1, 0, none⟩ = some (.slice none 0 0) := (hb.cell (p := ⟨w.heap.size + 1, 0, none⟩) (by show w.heap.size + 1 < _; omega)).trans (r1 0)
  have f1 : w1.frozen? ⟨w.heap.size + 1, 0, none⟩ = false := (hb.frozen (p := ⟨w.heap.size + 1, 0, none⟩) (by show w.heap.size + 1 < _; omega)).trans (s1 0)
  have c2 : w1.cell? ⟨w.heap.size + 1 + 1, 0, none⟩ = some (.slice none 0 0) := (hb.cell (p := ⟨w.heap.size + 1 + 1, 0, none⟩) (by show w.heap.size + 1 + 1 < _; omega)).trans (r2 0)
  have f2 : w1.frozen? ⟨w.heap.size + 1 + 1, 0, none⟩ = false := (hb.frozen (p := ⟨w.heap.size + 1 + 1, 0, none⟩) (by show w.heap.size + 1 + 1 < _; omega)).trans (s2 0)
  obtain ⟨pv, cv, rfl, _⟩ := ho.sl
  have HF : Hid (OwnF ((w1.setCell ⟨w.heap.size + 1 + 1, 0, none⟩ (.slice pv n cv)).setCell ⟨w.heap.size + 1, 0, none⟩ (.slice pv n cv)) (.slice pv n cv) g n F t w.heap.size w1.heap.size ∧ Below w.heap.size w ((w1.setCell ⟨w.heap.size + 1 + 1, 0, none⟩ (.slice pv n cv)).setCell ⟨w.heap.size + 1, 0, none⟩ (.slice pv n cv))) := by
    show _ ∧ _
    have hk := ho.keep (W' := (w1.setCell ⟨w.heap.size + 1 + 1, 0, none⟩ (.slice pv n cv)).setCell ⟨w.heap.size + 1, 0, none⟩ (.slice pv n cv)) (fun b h1 h2 h3 => by
      rw [Below.heap_setCell _ _ _ _ (show b ≠ w.heap.size + 1 by omega), Below.heap_setCell _ _ _ _ (show b ≠ w.heap.size + 1 + 1 by omega)])
    have k1 := hk.bg
    have k2 := hk.b0
    exact ⟨⟨hk.sl, hk.frm, hk.fz, hk.up, fun hn => by have := k1 hn; omega, by omega, hk.bn⟩, ((b3.trans (hb.mono (by omega))).setCell (by show w.heap.size ≤ w.heap.size + 1 + 1; omega) _).setCell (by show w.heap.size ≤ w.heap.size + 1; omega) _⟩
  have e0 : ((w1.setCell ⟨w.heap.size + 1 + 1, 0, none⟩ (.slice pv n cv)).setCell ⟨w.heap.size + 1, 0, none⟩ (.slice pv n cv)).cell? ⟨w.heap.size + 1, 0, none⟩ = some (.slice pv n cv) := set_eq _ _ _ _ _ ((World.cell?_setCell_other _ _ _ _ (fun e => by have := congrArg Addr.block e; simp at this)).trans c1)
  have E0 : Hid (((w1.setCell ⟨w.heap.size + 1 + 1, 0, none⟩ (.slice pv n cv)).setCell ⟨w.heap.size + 1, 0, none⟩ (.slice pv n cv)).cell? ⟨w.heap.size + 1, 0, none⟩ = some (.slice pv n cv)) := e0
  clear r0 r1 r2 s1 s2 z3 b3 ho hb hz hw3 e0 hs
  go_wp2_with fail
  have e0 := (show ((w1.setCell ⟨w.heap.size + 1 + 1, 0, none⟩ (.slice pv n cv)).setCell ⟨w.heap.size + 1, 0, none⟩ (.slice pv n cv)).cell? ⟨w.heap.size + 1, 0, none⟩ = some (.slice pv n cv) from E0)
  refine bodyPost_ret (by simp [results, Try.results6, go_sem, e0]; rfl) rfl ?_
  exact ⟨_, g, t, rfl, by simpa using HF.1, HF.2⟩
set_option maxRecDepth 100000 in
theorem eq_sheet {va vb : Value} {n : Nat} {F : Nat → Gv} (w : World) (ha : RowF w va n F) (hb : RowF w vb n F) (hn : n + smr F n ≤ 1048576) :
    Calls Try.prog 8 #[.agg #[va], .agg #[vb]] w fun e w' => e = .returned (.bool true) ∧ Below w.heap.size w w' := by
  have hs : Hid (∀ a b : Obj, Calls Try.prog 17 #[va, vb] ((w.alloc a).alloc b) fun e w' => e = .returned (.bool true) ∧ Below ((w.alloc a).alloc b).heap.size ((w.alloc a).alloc b) w') := (fun a b => eq_forms _ (ha.below (bel2 _ _ _)) (hb.below (bel2 _ _ _)) (by omega) (fun i hi => by
    have hsu := smr_mono F (show i + 1 ≤ n from hi)
    have hss : smr F (i + 1) = smr F i + (F i).p + (F i).q := rfl
    omega) : ∀ a b : Obj, _)
  obtain ⟨pa, ca, rfl, _⟩ := ha
  obtain ⟨pb, cb, rfl, _⟩ := hb
  clear hn
  go_enter Try.func8, Try.ntmps8
  go_wp2_with fail
  refine (hs _ _).mono ?_
  rintro e w1 ⟨rfl, hb⟩
  have HB : Hid (Below w.heap.size w w1) := (bel2 w _ _).trans (hb.mono (by simp; omega))
  clear hb hs
  go_wp2_with fail
  go_ret
  exact ⟨rfl, HB⟩
set_option maxRecDepth 100000 in
theorem mark_sheet {v : Value} {g n : Nat} {F : Nat → Gv} {t : Nat → Nat} {lo hi : Nat} (w : World) (ha : OwnF w v g n F t lo hi) (hn : n + smr F n ≤ 1048576) (hh : hi ≤ w.heap.size) :
    Calls Try.prog 9 #[.agg #[v], .int .i64 1] w fun e w' => e = .returned (.int .i64 (kst F 1 n : Int)) ∧ Kq (fun b => lo ≤ b ∧ b < hi) w w' ∧ OwnF w' v g n (mkf F 1) t lo hi := by
  have hs : Hid (∀ a : Obj, Calls Try.prog 18 #[v, .int .i64 ((1 : Nat) : Int)] (w.alloc a) fun e w' => e = .returned (.int .i64 (kst F 1 n : Int)) ∧ Kq (fun b => lo ≤ b ∧ b < hi) (w.alloc a) w' ∧ OwnF w' v g n (mkf F 1) t lo hi) := (fun a => mark_forms _ 1 (ha.below (bel1 _ _)) hn (by omega) (by omega) : ∀ a : Obj, _)
  have HR : Hid (0 ≤ kst F 1 n ∧ kst F 1 n ≤ 10000000) := (⟨by omega, by unfold kst; omega⟩ : _ ∧ _)
  obtain ⟨pa, ca, rfl, _⟩ := ha.sl
  clear hn ha
  go_enter Try.func9, Try.ntmps9
  go_wp2_with fail
  refine (hs _).mono ?_
  rintro e w1 ⟨rfl, hq, ho⟩
  have HB : Hid (Kq (fun b => lo ≤ b ∧ b < hi) w w1 ∧ OwnF w1 (.slice pa n ca) g n (mkf F 1) t lo hi) := (⟨(Kq.of_below (bel1 w _) (Nat.le_refl _)).trans hq, ho⟩ : _ ∧ _)
  clear hq ho hs
  obtain ⟨kk, hkk⟩ : ∃ kk, kk = kst F 1 n := ⟨_, rfl⟩
  have HKK : Hid (kk = kst F 1 n) := hkk
  rw [← hkk]
  clear hkk
  go_wp2_with fail
  go_ret
  exact ⟨by rw [← show kk = kst F 1 n from HKK]; rfl, HB.1, HB.2⟩
set_option maxRecDepth 100000 in
theorem held_sheet {v : Value} {g n : Nat} {F : Nat → Gv} {t : Nat → Nat} {lo hi : Nat} (w : World) (ha : OwnF w v g n (mkf F 1) t lo hi) (hn : n + smr F n ≤ 1048576) :
    Calls Try.prog 10 #[.agg #[v], .int .i64 1] w fun e w' => e = .returned (.int .i64 (kst F 1 n : Int)) ∧ Below w.heap.size w w' := by
  have hs : Hid (∀ a : Obj, Calls Try.prog 19 #[v, .int .i64 ((1 : Nat) : Int)] (w.alloc a) fun e w' => e = .returned (.int .i64 (kst F 1 n : Int)) ∧ Below (w.alloc a).heap.size (w.alloc a) w') := (fun a => held_forms _ 1 (ha.below (bel1 _ _)) hn (by omega) (by omega) : ∀ a : Obj, _)
  obtain ⟨pa, ca, rfl, _⟩ := ha.sl
  clear hn ha
  go_enter Try.func10, Try.ntmps10
  go_wp2_with fail
  refine (hs _).mono ?_
  rintro e w1 ⟨rfl, hb⟩
  have HB : Hid (Below w.heap.size w w1) := (bel1 w _).trans (hb.mono (by simp))
  clear hb hs
  obtain ⟨kk, hkk⟩ : ∃ kk, kk = kst F 1 n := ⟨_, rfl⟩
  have HKK : Hid (kk = kst F 1 n) := hkk
  rw [← hkk]
  clear hkk
  have hk : ¬ ((kk : Int) < 0) := by omega
  go_wp2_with fail
  go_ret
  exact ⟨by rw [← show kk = kst F 1 n from HKK]; rfl, HB⟩
end Go.Proofs.Ytgpbmmhfhjobkaa
