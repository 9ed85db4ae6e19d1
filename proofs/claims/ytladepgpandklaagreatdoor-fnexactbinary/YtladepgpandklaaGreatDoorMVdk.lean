import Derived.Test.YtladepgpandklaaGreatDoorMVdb
import Derived.Test.YtladepgpandklaaGreatDoorMVau
namespace Go.Proofs.YtladepgpandklaaGreatDoor
open Go.ChangeShapes Go.WideShapes Go.ChangeAt Go.RowKit
set_option linter.unusedVariables false
set_option maxRecDepth 100000
/-- a number as a float -/
noncomputable def af (v : Vv) : Nat := if v.k = 2 then floatOfInt .f64 v.m else v.g
theorem sp_as (v : Vv) (w : World) : Calls Tryz.prog 21 #[vv v] w fun e w' => e = .returned (.float .f64 (af v)) ∧ Grown w w' := by
  obtain ⟨k, m, g, x, r⟩ := v
  by_cases h : k = 2
  · subst h
    rw [show af ⟨2, m, g, x, r⟩ = floatOfInt .f64 m from if_pos rfl]
    unfold vv
    dsimp only
    go_enter Tryz.func21, Tryz.ntmps21
    go_wp2_with fail
    go_ret
    exact ⟨rfl, by go_grown⟩
  rw [show af ⟨k, m, g, x, r⟩ = g from if_neg h]
  have q : (k == 2) = false := by simpa using h
  unfold vv
  dsimp only
  go_enter Tryz.func21, Tryz.ntmps21
  go_wp2_with fail
  go_ret
  exact ⟨rfl, by go_grown⟩
theorem im_as (v : Vv) (w : World) : Calls Tryz.prog 33 #[vv v] w fun e w' => e = .returned (.float .f64 (af v)) ∧ Grown w w' := by
  obtain ⟨k, m, g, x, r⟩ := v
  by_cases h : k = 2
  · subst h
    rw [show af ⟨2, m, g, x, r⟩ = floatOfInt .f64 m from if_pos rfl]
    unfold vv
    dsimp only
    go_enter Tryz.func33, Tryz.ntmps33
    go_wp2_with fail
    go_ret
    exact ⟨rfl, by go_grown⟩
  rw [show af ⟨k, m, g, x, r⟩ = g from if_neg h]
  have q : (k == 2) = false := by simpa using h
  unfold vv
  dsimp only
  go_enter Tryz.func33, Tryz.ntmps33
  go_wp2_with fail
  go_ret
  exact ⟨rfl, by go_grown⟩
theorem or_same {o : Option Nat} {g g' : Nat} (h : OR o g) (h' : OR o g') (w : World) : Calls Tryz.prog 55 #[.float .f64 g, .float .f64 g'] w fun e w' => e = .returned (.bool true) ∧ w' = w := by
  obtain ⟨l, h⟩ := h
  obtain ⟨l', h'⟩ := h'
  cases o with
  | some r =>
    obtain ⟨rfl, _⟩ := h
    obtain ⟨rfl, _⟩ := h'
    exact same_eq _ l w
  | none => exact same_nan g g' w h h'
theorem eq_valf {o : Option Nat} {g g' : Nat} (h : OR o g) (h' : OR o g') (w : World) : Calls Tryz.prog 34 #[vv ⟨3, 0, g, ⟨#[]⟩, 0⟩, vv ⟨3, 0, g', ⟨#[]⟩, 0⟩] w fun e w' => e = .returned (.bool true) ∧ Grown w w' := by
  have hf := fun w => or_same h h' w
  unfold vv
  dsimp only at hf ⊢
  clear h h'
  go_enter Tryz.func34, Tryz.ntmps34
  go_wp2_with (go_at_call 55; refine (hf _).mono ?_; rintro e w1 ⟨rfl, rfl⟩)
  go_ret
  exact ⟨rfl, by go_grown⟩
set_option maxHeartbeats 1000000 in
theorem eq_valuedf {o : Option Nat} {g g' : Nat} (h : OR o g) (h' : OR o g') (w : World) : Calls Tryz.prog 8 #[va 0 ⟨3, 0, g, ⟨#[]⟩, 0⟩, va 0 ⟨3, 0, g', ⟨#[]⟩, 0⟩] w fun e w' => e = .returned (.bool true) ∧ Grown w w' := by
  have hf := fun w => eq_valf h h' w
  unfold vv at hf
  unfold va
  dsimp only at hf ⊢
  clear h h'
  go_enter Tryz.func8, Tryz.ntmps8
  go_wp2_with (go_at_call 34; refine (hf _).mono ?_; rintro e w1 ⟨rfl, g1⟩)
  go_ret
  exact ⟨rfl, by first | exact g1 | (refine Grown.trans ?_ g1; go_grown)⟩
/-- an answer: exact, or a float of an operation -/
inductive An
  | ex (c : Int) (u : Vv) (h : u.g < 18446744073709551616)
  | fl (o : Option Nat)
def An.is : An → Int → Vv → Prop
  | .ex c u _, c', u' => c' = c ∧ u' = u
  | .fl o, c', u' => c' = 0 ∧ ∃ g, u' = ⟨3, 0, g, ⟨#[]⟩, 0⟩ ∧ OR o g
theorem An.eq {A : An} {c c' : Int} {u u' : Vv} (h : A.is c u) (h' : A.is c' u') (w : World) : Calls Tryz.prog 8 #[va c u, va c' u'] w fun e w' => e = .returned (.bool true) ∧ Grown w w' := by
  cases A with
  | ex d v hv =>
    obtain ⟨rfl, rfl⟩ := h
    obtain ⟨rfl, rfl⟩ := h'
    exact eq_valued _ _ hv w
  | fl o =>
    obtain ⟨rfl, g, rfl, hg⟩ := h
    obtain ⟨rfl, g', rfl, hg'⟩ := h'
    exact eq_valuedf hg hg' w
theorem sp_str (x : ByteArray) (w : World) : Calls Tryz.prog 14 #[.string x] w fun e w' => e = .returned (vv ⟨4, 0, 0, x, 0⟩) ∧ Grown w w' := by
  unfold vv
  try dsimp only
  have hst : ∀ (a : Addr) (n : Nat) (m : Mode) (w : World), (store a (.float .f64 n) m).run Tryz.prog w = stored Tryz.prog w a (.float .f64 n) m := fun a n m w => run_store _ _ _ _ _ rfl
  go_enter Tryz.func14, Tryz.ntmps14
  go_wp2_with go_in
  first
    | (go_ret; exact ⟨rfl, by go_grown⟩)
    | (refine bodyPost_ret (by simp [results, Tryz.results14, go_sem]; rfl) rfl ?_; exact ⟨rfl, by go_grown⟩)
theorem im_str (x : ByteArray) (w : World) : Calls Tryz.prog 47 #[.string x] w fun e w' => e = .returned (va 0 ⟨4, 0, 0, x, 0⟩) ∧ Grown w w' := by
  unfold va
  try dsimp only
  have hst : ∀ (a : Addr) (n : Nat) (m : Mode) (w : World), (store a (.float .f64 n) m).run Tryz.prog w = stored Tryz.prog w a (.float .f64 n) m := fun a n m w => run_store _ _ _ _ _ rfl
  go_enter Tryz.func47, Tryz.ntmps47
  go_wp2_with go_in
  first
    | (go_ret; exact ⟨rfl, by go_grown⟩)
    | (refine bodyPost_ret (by simp [results, Tryz.results47, go_sem]; rfl) rfl ?_; exact ⟨rfl, by go_grown⟩)
def jn (v : Vv) : Prop := nmb v ∨ v.k = 4
theorem im_ints2 (a b : Vv) (w : World) : Calls Tryz.prog 29 #[vv a, vv b] w fun e w' => e = .returned (.bool (dc (a.k = 2 ∧ b.k = 2))) ∧ Grown w w' := by
  obtain ⟨k, m, g, x, r⟩ := a
  obtain ⟨l, n, h, y, s⟩ := b
  unfold vv
  dsimp only
  by_cases h1 : k = 2
  · subst h1
    by_cases h2 : l = 2
    · subst h2
      rw [dc_t ⟨rfl, rfl⟩]
      go_enter Tryz.func29, Tryz.ntmps29
      go_wp2_with fail
      go_ret
      exact ⟨rfl, by go_grown⟩
    rw [dc_f (fun h => h2 h.2)]
    go_enter Tryz.func29, Tryz.ntmps29
    go_wp2_with fail
    go_ret
    exact ⟨by first | rfl | simp [*], by go_grown⟩
  rw [dc_f (fun h => h1 h.1)]
  go_enter Tryz.func29, Tryz.ntmps29
  go_wp2_with fail
  go_ret
  exact ⟨by first | rfl | simp [*], by go_grown⟩
theorem sp_tru (R : Bool) (w : World) : Calls Tryz.prog 15 #[.bool R] w fun e w' => e = .returned (vv ⟨1, R.toInt, 0, ⟨#[]⟩, 0⟩) ∧ Grown w w' := by
  cases R
  · exact sp_bool_false w
  · exact sp_bool_true w
theorem im_tru (R : Bool) (w : World) : Calls Tryz.prog 25 #[.bool R] w fun e w' => e = .returned (va 0 ⟨1, R.toInt, 0, ⟨#[]⟩, 0⟩) ∧ Grown w w' := by
  cases R
  · exact im_bool_false w
  · exact im_bool_true w
set_option maxHeartbeats 2000000 in
theorem sp_jn (v : Vv) (w : World) : Calls Tryz.prog 11 #[vv v] w fun e w' => e = .returned (.bool (dc (jn v))) ∧ Grown w w' := by
  have HN := fun w => sp_num v w
  by_cases h4 : v.k = 4
  · have hn : ¬ nmb v := fun h => by unfold nmb at h; omega
    rw [dc_f hn] at HN
    rw [dc_t (.inr h4)]
    obtain ⟨k, m, g, x, r⟩ := v
    unfold vv at HN ⊢
    dsimp only at HN h4 ⊢
    subst h4
    clear hn
    go_enter Tryz.func11, Tryz.ntmps11
    go_wp2_with fail
    refine (HN _).mono ?_
    rintro e w1 ⟨rfl, g1⟩
    have A1 : Hid (Vc w1 w.heap.size ⟨4, m, g, x, r⟩) := (Vc.new w 4 m g x r 26).grown g1
    have G1 : Hid (Grown w w1) := Grown.trans (by go_grown) g1
    obtain ⟨c0, c1, c2, c3, c4⟩ := (show Vc w1 w.heap.size ⟨4, m, g, x, r⟩ from A1)
    clear g1 HN A1
    go_wp2_with fail
    go_ret
    exact ⟨by first | rfl | simp [*], G1⟩
  by_cases hn : nmb v
  · rw [dc_t hn] at HN
    rw [dc_t (.inl hn)]
    obtain ⟨k, m, g, x, r⟩ := v
    unfold vv at HN ⊢
    dsimp only at HN h4 ⊢
    clear hn
    go_enter Tryz.func11, Tryz.ntmps11
    go_wp2_with fail
    refine (HN _).mono ?_
    rintro e w1 ⟨rfl, g1⟩
    have A1 : Hid (Vc w1 w.heap.size ⟨k, m, g, x, r⟩) := (Vc.new w k m g x r 26).grown g1
    have G1 : Hid (Grown w w1) := Grown.trans (by go_grown) g1
    obtain ⟨c0, c1, c2, c3, c4⟩ := (show Vc w1 w.heap.size ⟨k, m, g, x, r⟩ from A1)
    clear g1 HN A1
    go_wp2_with fail
    go_ret
    exact ⟨by first | rfl | simp [*], G1⟩
  · rw [dc_f hn] at HN
    rw [dc_f (fun h => h.elim hn h4)]
    obtain ⟨k, m, g, x, r⟩ := v
    unfold vv at HN ⊢
    dsimp only at HN h4 ⊢
    clear hn
    go_enter Tryz.func11, Tryz.ntmps11
    go_wp2_with fail
    refine (HN _).mono ?_
    rintro e w1 ⟨rfl, g1⟩
    have A1 : Hid (Vc w1 w.heap.size ⟨k, m, g, x, r⟩) := (Vc.new w k m g x r 26).grown g1
    have G1 : Hid (Grown w w1) := Grown.trans (by go_grown) g1
    obtain ⟨c0, c1, c2, c3, c4⟩ := (show Vc w1 w.heap.size ⟨k, m, g, x, r⟩ from A1)
    clear g1 HN A1
    go_wp2_with fail
    go_ret
    exact ⟨by first | rfl | simp [*], G1⟩
set_option maxHeartbeats 2000000 in
theorem im_jn (v : Vv) (w : World) : Calls Tryz.prog 45 #[vv v] w fun e w' => e = .returned (.bool (dc (jn v))) ∧ Grown w w' := by
  have HN := fun w => im_num v w
  by_cases h4 : v.k = 4
  · have hn : ¬ nmb v := fun h => by unfold nmb at h; omega
    rw [dc_f hn] at HN
    rw [dc_t (.inr h4)]
    obtain ⟨k, m, g, x, r⟩ := v
    unfold vv at HN ⊢
    dsimp only at HN h4 ⊢
    subst h4
    clear hn
    go_enter Tryz.func45, Tryz.ntmps45
    go_wp2_with fail
    go_ret
    exact ⟨rfl, by go_grown⟩
  by_cases hn : nmb v
  · rw [dc_t hn] at HN
    rw [dc_t (.inl hn)]
    obtain ⟨k, m, g, x, r⟩ := v
    unfold vv at HN ⊢
    dsimp only at HN h4 ⊢
    clear hn
    go_enter Tryz.func45, Tryz.ntmps45
    go_wp2_with fail
    refine (HN _).mono ?_
    rintro e w1 ⟨rfl, g1⟩
    have A1 : Hid (Vc w1 w.heap.size ⟨k, m, g, x, r⟩) := (Vc.new w k m g x r 26).grown g1
    have G1 : Hid (Grown w w1) := Grown.trans (by go_grown) g1
    obtain ⟨c0, c1, c2, c3, c4⟩ := (show Vc w1 w.heap.size ⟨k, m, g, x, r⟩ from A1)
    clear g1 HN A1
    go_wp2_with fail
    go_ret
    exact ⟨by first | rfl | simp [*], G1⟩
  · rw [dc_f hn] at HN
    rw [dc_f (fun h => h.elim hn h4)]
    obtain ⟨k, m, g, x, r⟩ := v
    unfold vv at HN ⊢
    dsimp only at HN h4 ⊢
    clear hn
    go_enter Tryz.func45, Tryz.ntmps45
    go_wp2_with fail
    refine (HN _).mono ?_
    rintro e w1 ⟨rfl, g1⟩
    have A1 : Hid (Vc w1 w.heap.size ⟨k, m, g, x, r⟩) := (Vc.new w k m g x r 26).grown g1
    have G1 : Hid (Grown w w1) := Grown.trans (by go_grown) g1
    obtain ⟨c0, c1, c2, c3, c4⟩ := (show Vc w1 w.heap.size ⟨k, m, g, x, r⟩ from A1)
    clear g1 HN A1
    go_wp2_with fail
    go_ret
    exact ⟨by first | rfl | simp [*], G1⟩
end Go.Proofs.YtladepgpandklaaGreatDoor
