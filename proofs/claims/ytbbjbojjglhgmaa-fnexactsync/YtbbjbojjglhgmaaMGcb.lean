import Derived.Test.YtbbjbojjglhgmaaMGba
namespace Go.Proofs.Ytbbjbojjglhgmaa.Fo
open Go.ChangeShapes Go.WideShapes Go.ChangeAt Go.RowKit
set_option linter.unusedVariables false
set_option maxRecDepth 100000
noncomputable def dc (p : Prop) : Bool := @decide p (Classical.propDecidable p)
theorem dc_t {p : Prop} (h : p) : dc p = true := @decide_eq_true p (Classical.propDecidable p) h
theorem dc_f {p : Prop} (h : ¬ p) : dc p = false := @decide_eq_false p (Classical.propDecidable p) h
theorem bne {k m : Int} (h : k ≠ m) : (k == m) = false := beq_eq_false_iff_ne.2 h
theorem str0 {x : ByteArray} (h : x = ⟨#[]⟩) : x.toList = [] := by rw [Lib.toList_data, h]
theorem str1 {x : ByteArray} (h : ¬ x = ⟨#[]⟩) : ¬ x.toList = [] := by
  rw [Lib.toList_data]
  intro e
  exact h (by apply ByteArray.ext; exact Array.toList_inj.1 (by simpa using e))
/-- a value of a graph of n nodes that is well made -/
def Vok (n : Nat) (v : Gv) : Prop :=
  (v.k = 0 ∧ v.m = 0 ∧ v.x = ⟨#[]⟩ ∧ v.r = 0) ∨ ((v.k = 1 ∨ v.k = 2) ∧ v.x = ⟨#[]⟩ ∧ v.r = 0) ∨ (v.k = 3 ∧ v.m = 0 ∧ v.r = 0 ∧ v.x.size ≤ 4000) ∨ (v.k = 4 ∧ v.m = 0 ∧ v.x = ⟨#[]⟩ ∧ 0 ≤ v.r ∧ v.r < (n : Int))
/-- a graph that is well made -/
def Gok (n : Nat) (F : Nat → Td) (a : Gv) : Prop := n ≤ 600 ∧ Vok n a ∧ ∀ i, i < n → (0 ≤ (F i).t ∧ (F i).t ≤ 1000 ∧ (F i).c ≤ 300) ∧ ∀ j, j < (F i).c → Vok n ((F i).C j)
set_option maxHeartbeats 8000000 in
theorem sp_val_0 {a : Gv} {pn : Option Addr} {n cn : Nat} (v : Gv) (hxs : (v.x.size : Int) < 140737488355328) (hn : (n : Int) < 140737488355328) (hk : v.k = 0) (w : World) : Calls Try.prog 121 #[grv a (.slice pn n cn), gvv v] w fun e w' => e = .returned (.bool (dc (Vok n v))) ∧ Kb 0 w w' := by
  unfold grv gvv
  by_cases hm : v.m = 0
  rotate_left
  · rw [dc_f (by rintro (⟨q, q1, q2, q3⟩ | ⟨q, q1, q2⟩ | ⟨q, q1, q2, q3⟩ | ⟨q, q1, q2, q3, q4⟩) <;> first | omega | exact hm (by assumption))]
    have k0 : ((0 : Int) == 0) = true := rfl
    have cm : (v.m == 0) = false := bne hm
    rw [hk]
    clear hk
    go_enter Try.func121, Try.ntmps121
    go_wp2_with fail
    all_goals (go_ret; exact ⟨by first | rfl | simp [*], kb_alloc2 _ _ _ _⟩)
  have cm : (v.m == 0) = true := by simpa using hm
  by_cases hx : v.x = ⟨#[]⟩
  rotate_left
  · rw [dc_f (by rintro (⟨q, q1, q2, q3⟩ | ⟨q, q1, q2⟩ | ⟨q, q1, q2, q3⟩ | ⟨q, q1, q2, q3, q4⟩) <;> first | omega | exact hx (by assumption))]
    have k0 : ((0 : Int) == 0) = true := rfl
    have cx := str1 hx
    rw [hk]
    clear hk
    go_enter Try.func121, Try.ntmps121
    go_wp2_with fail
    all_goals (go_ret; exact ⟨by first | rfl | simp [*], kb_alloc2 _ _ _ _⟩)
  have cx := str0 hx
  by_cases hr : v.r = 0
  rotate_left
  · rw [dc_f (by rintro (⟨q, q1, q2, q3⟩ | ⟨q, q1, q2⟩ | ⟨q, q1, q2, q3⟩ | ⟨q, q1, q2, q3, q4⟩) <;> first | omega | exact hr (by assumption))]
    have k0 : ((0 : Int) == 0) = true := rfl
    have cr : (v.r == 0) = false := bne hr
    rw [hk]
    clear hk
    go_enter Try.func121, Try.ntmps121
    go_wp2_with fail
    all_goals (go_ret; exact ⟨by first | rfl | simp [*], kb_alloc2 _ _ _ _⟩)
  have cr : (v.r == 0) = true := by simpa using hr
  rw [dc_t (.inl ⟨hk, hm, hx, hr⟩)]
  rw [hk]
  clear hk
  go_enter Try.func121, Try.ntmps121
  go_wp2_with fail
  all_goals (go_ret; exact ⟨by first | rfl | simp [*], kb_alloc2 _ _ _ _⟩)
set_option maxHeartbeats 8000000 in
theorem sp_val_1 {a : Gv} {pn : Option Addr} {n cn : Nat} (v : Gv) (hxs : (v.x.size : Int) < 140737488355328) (hn : (n : Int) < 140737488355328) (hk : v.k = 1) (w : World) : Calls Try.prog 121 #[grv a (.slice pn n cn), gvv v] w fun e w' => e = .returned (.bool (dc (Vok n v))) ∧ Kb 0 w w' := by
  unfold grv gvv
  by_cases hx : v.x = ⟨#[]⟩
  rotate_left
  · rw [dc_f (by rintro (⟨q, q1, q2, q3⟩ | ⟨q, q1, q2⟩ | ⟨q, q1, q2, q3⟩ | ⟨q, q1, q2, q3, q4⟩) <;> first | omega | exact hx (by assumption))]
    have k0 : ((1 : Int) == 0) = false := rfl
    have k1 : ((1 : Int) == 1) = true := rfl
    have cx := str1 hx
    rw [hk]
    clear hk
    go_enter Try.func121, Try.ntmps121
    go_wp2_with fail
    all_goals (go_ret; exact ⟨by first | rfl | simp [*], kb_alloc2 _ _ _ _⟩)
  have cx := str0 hx
  by_cases hr : v.r = 0
  rotate_left
  · rw [dc_f (by rintro (⟨q, q1, q2, q3⟩ | ⟨q, q1, q2⟩ | ⟨q, q1, q2, q3⟩ | ⟨q, q1, q2, q3, q4⟩) <;> first | omega | exact hr (by assumption))]
    have k0 : ((1 : Int) == 0) = false := rfl
    have k1 : ((1 : Int) == 1) = true := rfl
    have cr : (v.r == 0) = false := bne hr
    rw [hk]
    clear hk
    go_enter Try.func121, Try.ntmps121
    go_wp2_with fail
    all_goals (go_ret; exact ⟨by first | rfl | simp [*], kb_alloc2 _ _ _ _⟩)
  have cr : (v.r == 0) = true := by simpa using hr
  rw [dc_t (.inr (.inl ⟨.inl hk, hx, hr⟩))]
  rw [hk]
  clear hk
  go_enter Try.func121, Try.ntmps121
  go_wp2_with fail
  all_goals (go_ret; exact ⟨by first | rfl | simp [*], kb_alloc2 _ _ _ _⟩)
set_option maxHeartbeats 8000000 in
theorem sp_val_2 {a : Gv} {pn : Option Addr} {n cn : Nat} (v : Gv) (hxs : (v.x.size : Int) < 140737488355328) (hn : (n : Int) < 140737488355328) (hk : v.k = 2) (w : World) : Calls Try.prog 121 #[grv a (.slice pn n cn), gvv v] w fun e w' => e = .returned (.bool (dc (Vok n v))) ∧ Kb 0 w w' := by
  unfold grv gvv
  by_cases hx : v.x = ⟨#[]⟩
  rotate_left
  · rw [dc_f (by rintro (⟨q, q1, q2, q3⟩ | ⟨q, q1, q2⟩ | ⟨q, q1, q2, q3⟩ | ⟨q, q1, q2, q3, q4⟩) <;> first | omega | exact hx (by assumption))]
    have k0 : ((2 : Int) == 0) = false := rfl
    have k1 : ((2 : Int) == 1) = false := rfl
    have k2 : ((2 : Int) == 2) = true := rfl
    have cx := str1 hx
    rw [hk]
    clear hk
    go_enter Try.func121, Try.ntmps121
    go_wp2_with fail
    all_goals (go_ret; exact ⟨by first | rfl | simp [*], kb_alloc2 _ _ _ _⟩)
  have cx := str0 hx
  by_cases hr : v.r = 0
  rotate_left
  · rw [dc_f (by rintro (⟨q, q1, q2, q3⟩ | ⟨q, q1, q2⟩ | ⟨q, q1, q2, q3⟩ | ⟨q, q1, q2, q3, q4⟩) <;> first | omega | exact hr (by assumption))]
    have k0 : ((2 : Int) == 0) = false := rfl
    have k1 : ((2 : Int) == 1) = false := rfl
    have k2 : ((2 : Int) == 2) = true := rfl
    have cr : (v.r == 0) = false := bne hr
    rw [hk]
    clear hk
    go_enter Try.func121, Try.ntmps121
    go_wp2_with fail
    all_goals (go_ret; exact ⟨by first | rfl | simp [*], kb_alloc2 _ _ _ _⟩)
  have cr : (v.r == 0) = true := by simpa using hr
  rw [dc_t (.inr (.inl ⟨.inr hk, hx, hr⟩))]
  rw [hk]
  clear hk
  go_enter Try.func121, Try.ntmps121
  go_wp2_with fail
  all_goals (go_ret; exact ⟨by first | rfl | simp [*], kb_alloc2 _ _ _ _⟩)
set_option maxHeartbeats 8000000 in
theorem sp_val_3 {a : Gv} {pn : Option Addr} {n cn : Nat} (v : Gv) (hxs : (v.x.size : Int) < 140737488355328) (hn : (n : Int) < 140737488355328) (hk : v.k = 3) (w : World) : Calls Try.prog 121 #[grv a (.slice pn n cn), gvv v] w fun e w' => e = .returned (.bool (dc (Vok n v))) ∧ Kb 0 w w' := by
  unfold grv gvv
  by_cases hm : v.m = 0
  rotate_left
  · rw [dc_f (by rintro (⟨q, q1, q2, q3⟩ | ⟨q, q1, q2⟩ | ⟨q, q1, q2, q3⟩ | ⟨q, q1, q2, q3, q4⟩) <;> first | omega | exact hm (by assumption))]
    have k0 : ((3 : Int) == 0) = false := rfl
    have k1 : ((3 : Int) == 1) = false := rfl
    have k2 : ((3 : Int) == 2) = false := rfl
    have k3 : ((3 : Int) == 3) = true := rfl
    have cm : (v.m == 0) = false := bne hm
    rw [hk]
    clear hk
    go_enter Try.func121, Try.ntmps121
    go_wp2_with fail
    all_goals (go_ret; exact ⟨by first | rfl | simp [*], kb_alloc2 _ _ _ _⟩)
  have cm : (v.m == 0) = true := by simpa using hm
  by_cases hr : v.r = 0
  rotate_left
  · rw [dc_f (by rintro (⟨q, q1, q2, q3⟩ | ⟨q, q1, q2⟩ | ⟨q, q1, q2, q3⟩ | ⟨q, q1, q2, q3, q4⟩) <;> first | omega | exact hr (by assumption))]
    have k0 : ((3 : Int) == 0) = false := rfl
    have k1 : ((3 : Int) == 1) = false := rfl
    have k2 : ((3 : Int) == 2) = false := rfl
    have k3 : ((3 : Int) == 3) = true := rfl
    have cr : (v.r == 0) = false := bne hr
    rw [hk]
    clear hk
    go_enter Try.func121, Try.ntmps121
    go_wp2_with fail
    all_goals (go_ret; exact ⟨by first | rfl | simp [*], kb_alloc2 _ _ _ _⟩)
  have cr : (v.r == 0) = true := by simpa using hr
  by_cases hs : v.x.size ≤ 4000
  rotate_left
  · rw [dc_f (by rintro (⟨q, q1, q2, q3⟩ | ⟨q, q1, q2⟩ | ⟨q, q1, q2, q3⟩ | ⟨q, q1, q2, q3, q4⟩) <;> first | omega | exact hs (by assumption))]
    have k0 : ((3 : Int) == 0) = false := rfl
    have k1 : ((3 : Int) == 1) = false := rfl
    have k2 : ((3 : Int) == 2) = false := rfl
    have k3 : ((3 : Int) == 3) = true := rfl
    have cs : ¬ (v.x.size : Int) ≤ 4000 := by omega
    rw [hk]
    clear hk
    go_enter Try.func121, Try.ntmps121
    go_wp2_with fail
    all_goals (go_ret; exact ⟨by first | rfl | simp [*], kb_alloc2 _ _ _ _⟩)
  have cs : (v.x.size : Int) ≤ 4000 := by omega
  rw [dc_t (.inr (.inr (.inl ⟨hk, hm, hr, hs⟩)))]
  rw [hk]
  clear hk
  go_enter Try.func121, Try.ntmps121
  go_wp2_with fail
  all_goals (go_ret; exact ⟨by first | rfl | simp [*], kb_alloc2 _ _ _ _⟩)
set_option maxHeartbeats 8000000 in
theorem sp_val_4 {a : Gv} {pn : Option Addr} {n cn : Nat} (v : Gv) (hxs : (v.x.size : Int) < 140737488355328) (hn : (n : Int) < 140737488355328) (hk : v.k = 4) (w : World) : Calls Try.prog 121 #[grv a (.slice pn n cn), gvv v] w fun e w' => e = .returned (.bool (dc (Vok n v))) ∧ Kb 0 w w' := by
  unfold grv gvv
  by_cases hm : v.m = 0
  rotate_left
  · rw [dc_f (by rintro (⟨q, q1, q2, q3⟩ | ⟨q, q1, q2⟩ | ⟨q, q1, q2, q3⟩ | ⟨q, q1, q2, q3, q4⟩) <;> first | omega | exact hm (by assumption))]
    have k0 : ((4 : Int) == 0) = false := rfl
    have k1 : ((4 : Int) == 1) = false := rfl
    have k2 : ((4 : Int) == 2) = false := rfl
    have k3 : ((4 : Int) == 3) = false := rfl
    have k4 : ((4 : Int) == 4) = true := rfl
    have cm : (v.m == 0) = false := bne hm
    rw [hk]
    clear hk
    go_enter Try.func121, Try.ntmps121
    go_wp2_with fail
    all_goals (go_ret; exact ⟨by first | rfl | simp [*], kb_alloc2 _ _ _ _⟩)
  have cm : (v.m == 0) = true := by simpa using hm
  by_cases hx : v.x = ⟨#[]⟩
  rotate_left
  · rw [dc_f (by rintro (⟨q, q1, q2, q3⟩ | ⟨q, q1, q2⟩ | ⟨q, q1, q2, q3⟩ | ⟨q, q1, q2, q3, q4⟩) <;> first | omega | exact hx (by assumption))]
    have k0 : ((4 : Int) == 0) = false := rfl
    have k1 : ((4 : Int) == 1) = false := rfl
    have k2 : ((4 : Int) == 2) = false := rfl
    have k3 : ((4 : Int) == 3) = false := rfl
    have k4 : ((4 : Int) == 4) = true := rfl
    have cx := str1 hx
    rw [hk]
    clear hk
    go_enter Try.func121, Try.ntmps121
    go_wp2_with fail
    all_goals (go_ret; exact ⟨by first | rfl | simp [*], kb_alloc2 _ _ _ _⟩)
  have cx := str0 hx
  by_cases hp : 0 ≤ v.r
  rotate_left
  · rw [dc_f (by rintro (⟨q, q1, q2, q3⟩ | ⟨q, q1, q2⟩ | ⟨q, q1, q2, q3⟩ | ⟨q, q1, q2, q3, q4⟩) <;> first | omega | exact hp (by assumption))]
    have k0 : ((4 : Int) == 0) = false := rfl
    have k1 : ((4 : Int) == 1) = false := rfl
    have k2 : ((4 : Int) == 2) = false := rfl
    have k3 : ((4 : Int) == 3) = false := rfl
    have k4 : ((4 : Int) == 4) = true := rfl
    rw [hk]
    clear hk
    go_enter Try.func121, Try.ntmps121
    go_wp2_with fail
    all_goals (go_ret; exact ⟨by first | rfl | simp [*], kb_alloc2 _ _ _ _⟩)
  by_cases hq : v.r < (n : Int)
  rotate_left
  · rw [dc_f (by rintro (⟨q, q1, q2, q3⟩ | ⟨q, q1, q2⟩ | ⟨q, q1, q2, q3⟩ | ⟨q, q1, q2, q3, q4⟩) <;> first | omega | exact hq (by assumption))]
    have k0 : ((4 : Int) == 0) = false := rfl
    have k1 : ((4 : Int) == 1) = false := rfl
    have k2 : ((4 : Int) == 2) = false := rfl
    have k3 : ((4 : Int) == 3) = false := rfl
    have k4 : ((4 : Int) == 4) = true := rfl
    rw [hk]
    clear hk
    go_enter Try.func121, Try.ntmps121
    go_wp2_with fail
    all_goals (go_ret; exact ⟨by first | rfl | simp [*], kb_alloc2 _ _ _ _⟩)
  rw [dc_t (.inr (.inr (.inr ⟨hk, hm, hx, hp, hq⟩)))]
  rw [hk]
  clear hk
  go_enter Try.func121, Try.ntmps121
  go_wp2_with fail
  all_goals (go_ret; exact ⟨by first | rfl | simp [*], kb_alloc2 _ _ _ _⟩)
set_option maxHeartbeats 8000000 in
theorem sp_val_x {a : Gv} {pn : Option Addr} {n cn : Nat} (v : Gv) (h0 : v.k ≠ 0) (h1 : v.k ≠ 1) (h2 : v.k ≠ 2) (h3 : v.k ≠ 3) (h4 : v.k ≠ 4) (w : World) : Calls Try.prog 121 #[grv a (.slice pn n cn), gvv v] w fun e w' => e = .returned (.bool (dc (Vok n v))) ∧ Kb 0 w w' := by
  unfold grv gvv
  rw [dc_f (by rintro (⟨q, _⟩ | ⟨q, _⟩ | ⟨q, _⟩ | ⟨q, _⟩) <;> omega)]
  have k0 := bne h0
  have k1 := bne h1
  have k2 := bne h2
  have k3 := bne h3
  have k4 := bne h4
  go_enter Try.func121, Try.ntmps121
  go_wp2_with fail
  go_ret
  exact ⟨rfl, kb_alloc2 _ _ _ _⟩
theorem sp_val {a : Gv} {pn : Option Addr} {n cn : Nat} (v : Gv) (hxs : (v.x.size : Int) < 140737488355328) (hn : (n : Int) < 140737488355328) (w : World) : Calls Try.prog 121 #[grv a (.slice pn n cn), gvv v] w fun e w' => e = .returned (.bool (dc (Vok n v))) ∧ Kb 0 w w' := by
  by_cases h0 : v.k = 0
  · exact sp_val_0 v hxs hn h0 w
  by_cases h1 : v.k = 1
  · exact sp_val_1 v hxs hn h1 w
  by_cases h2 : v.k = 2
  · exact sp_val_2 v hxs hn h2 w
  by_cases h3 : v.k = 3
  · exact sp_val_3 v hxs hn h3 w
  by_cases h4 : v.k = 4
  · exact sp_val_4 v hxs hn h4 w
  exact sp_val_x v h0 h1 h2 h3 h4 w
end Go.Proofs.Ytbbjbojjglhgmaa.Fo
