import Derived.Test.YtieccnkabllamaaNbi
import Derived.Deep.QuietTactic
import Derived.BigQuiet
namespace Go.Proofs.Ytieccnkabllamaa.Fo
open Go.ChangeShapes Go.WideShapes Go.ChangeAt Go.RowKit
set_option linter.unusedVariables false
set_option maxRecDepth 100000
/-- the truth of a proposition -/
noncomputable def dc (p : Prop) : Bool := @decide p (Classical.propDecidable p)
theorem dc_t {p : Prop} (h : p) : dc p = true := @decide_eq_true p (Classical.propDecidable p) h
theorem dc_f {p : Prop} (h : ¬ p) : dc p = false := @decide_eq_false p (Classical.propDecidable p) h
theorem dc_iff {p q : Prop} (h : p ↔ q) : dc p = dc q := by rw [show p = q from propext h]
theorem bne {k m : Int} (h : k ≠ m) : (k == m) = false := beq_eq_false_iff_ne.2 h
theorem beq1 {k m : Int} (h : k = m) : (k == m) = true := beq_iff_eq.2 h
theorem str0 {x : ByteArray} (h : x = ⟨#[]⟩) : x.toList = [] := by rw [Lib.toList_data, h]
theorem str1 {x : ByteArray} (h : ¬ x = ⟨#[]⟩) : ¬ x.toList = [] := by
  rw [Lib.toList_data]
  intro e
  exact h (by apply ByteArray.ext; exact Array.toList_inj.1 (by simpa using e))
/-- the kind of a statement, of an expression -/
def St (k : Int) : Prop := 1 ≤ k ∧ k ≤ 14
def Ex (k : Int) : Prop := 20 ≤ k ∧ k ≤ 38
theorem sp_stat (k : Int) (w : World) : Calls Try.prog 60 #[.int .i64 k] w fun e w' => e = .returned (.bool (dc (St k))) ∧ w' = w := by
  unfold St
  rcases Int.lt_or_le k 1 with h | h
  · rw [dc_f (by omega)]
    have h' : ¬ 1 ≤ k := by omega
    go_enter Try.func60, Try.ntmps60
    go_wp2_with fail
    go_ret
    exact ⟨rfl, rfl⟩
  · rcases Int.lt_or_le 14 k with g | g
    · rw [dc_f (by omega)]
      have g' : ¬ k ≤ 14 := by omega
      go_enter Try.func60, Try.ntmps60
      go_wp2_with fail
      go_ret
      exact ⟨rfl, rfl⟩
    · rw [dc_t ⟨h, g⟩]
      go_enter Try.func60, Try.ntmps60
      go_wp2_with fail
      go_ret
      exact ⟨rfl, rfl⟩
theorem sp_expr (k : Int) (w : World) : Calls Try.prog 98 #[.int .i64 k] w fun e w' => e = .returned (.bool (dc (Ex k))) ∧ w' = w := by
  unfold Ex
  rcases Int.lt_or_le k 20 with h | h
  · rw [dc_f (by omega)]
    have h' : ¬ 20 ≤ k := by omega
    go_enter Try.func98, Try.ntmps98
    go_wp2_with fail
    go_ret
    exact ⟨rfl, rfl⟩
  · rcases Int.lt_or_le 38 k with g | g
    · rw [dc_f (by omega)]
      have g' : ¬ k ≤ 38 := by omega
      go_enter Try.func98, Try.ntmps98
      go_wp2_with fail
      go_ret
      exact ⟨rfl, rfl⟩
    · rw [dc_t ⟨h, g⟩]
      go_enter Try.func98, Try.ntmps98
      go_wp2_with fail
      go_ret
      exact ⟨rfl, rfl⟩
theorem sp_target (k : Int) (w : World) : Calls Try.prog 82 #[.int .i64 k] w fun e w' => e = .returned (.bool (dc (k = 26 ∨ k = 27 ∨ k = 33))) ∧ w' = w := by
  by_cases h0 : k = 26
  · rw [dc_t (.inl h0)]
    have g0 := beq1 h0
    clear h0
    go_enter Try.func82, Try.ntmps82
    go_wp2_with fail
    go_ret
    exact ⟨rfl, rfl⟩
  · have g0 := bne h0
    by_cases h1 : k = 27
    · rw [dc_t (.inr (.inl h1))]
      have g1 := beq1 h1
      clear h0 h1
      go_enter Try.func82, Try.ntmps82
      go_wp2_with fail
      go_ret
      exact ⟨rfl, rfl⟩
    · have g1 := bne h1
      by_cases h2 : k = 33
      · rw [dc_t (.inr (.inr h2))]
        have g2 := beq1 h2
        clear h0 h1 h2
        go_enter Try.func82, Try.ntmps82
        go_wp2_with fail
        go_ret
        exact ⟨rfl, rfl⟩
      · have g2 := bne h2
        rw [dc_f (by omega)]
        clear h0 h1 h2
        go_enter Try.func82, Try.ntmps82
        go_wp2_with fail
        go_ret
        exact ⟨rfl, rfl⟩
theorem sp_many (k : Int) (w : World) : Calls Try.prog 83 #[.int .i64 k] w fun e w' => e = .returned (.bool (dc (k = 34 ∨ k = 37))) ∧ w' = w := by
  by_cases h0 : k = 34
  · rw [dc_t (.inl h0)]
    have g0 := beq1 h0
    clear h0
    go_enter Try.func83, Try.ntmps83
    go_wp2_with fail
    go_ret
    exact ⟨rfl, rfl⟩
  · have g0 := bne h0
    by_cases h1 : k = 37
    · rw [dc_t (.inr h1)]
      have g1 := beq1 h1
      clear h0 h1
      go_enter Try.func83, Try.ntmps83
      go_wp2_with fail
      go_ret
      exact ⟨rfl, rfl⟩
    · have g1 := bne h1
      rw [dc_f (by omega)]
      clear h0 h1
      go_enter Try.func83, Try.ntmps83
      go_wp2_with fail
      go_ret
      exact ⟨rfl, rfl⟩
/-- the fields that are not named are empty -/
def Br (o m g x : Bool) (a : Nv) (p : Nat) (r : Int) : Prop := (o = true ∨ a.o = 0) ∧ (m = true ∨ a.m = 0) ∧ (g = true ∨ fz a.g) ∧ (x = true ∨ a.x = ⟨#[]⟩) ∧ (p : Int) = r
set_option maxHeartbeats 8000000 in
theorem sp_bare_z (a : Nv) (hga : a.g < 18446744073709551616) (pr : Option Addr) (p cr : Nat) (pk : Option Addr) (q ck : Nat) (r : Int) (hr : -1 ≤ r ∧ r ≤ 1048576) (hp : p ≤ 1048576) (w : World) :
    Calls Try.prog 80 #[ndv a (.slice pr p cr) (.slice pk q ck), .bool false, .bool false, .bool false, .bool false, .int .i64 r] w fun e w' => e = .returned (.bool (dc (Br false false false false a p r))) ∧ Kb 0 w w' := by
  unfold ndv Br
  have hpI : (p : Int) ≤ 1048576 := by omega
  obtain ⟨k, l, o, m, g, x⟩ := a
  have hfc := f_cases g hga
  clear hga
  dsimp only
  by_cases ho : o = 0
  · have go := beq1 ho
    by_cases hm : m = 0
    · have gm := beq1 hm
      rcases hfc with ⟨hg, _, _, gg⟩ | ⟨hg, _, _, gg⟩ | ⟨hg, _, _, gg | gg⟩
      · skip
        rw [dc_f (by simp [*])]
        clear hr hp hpI ho hm hg
        go_enter Try.func80, Try.ntmps80
        go_wp2_with fail
        go_ret
        exact ⟨by first | rfl | (simp only [*]; rfl), kb_alloc _ _ _⟩
      · skip
        by_cases hx : x = ⟨#[]⟩
        · have gx := str0 hx
          by_cases hp2 : (p : Int) = r
          · have gp := beq1 hp2
            rw [dc_t (by simp [*])]
            clear hr hp hpI ho hm hg hx hp2
            go_enter Try.func80, Try.ntmps80
            go_wp2_with fail
            go_ret
            exact ⟨by first | rfl | (simp only [*]; rfl), kb_alloc _ _ _⟩
          · have gp := bne hp2
            rw [dc_f (by simp [*])]
            clear hr hp hpI ho hm hg hx hp2
            go_enter Try.func80, Try.ntmps80
            go_wp2_with fail
            go_ret
            exact ⟨by first | rfl | (simp only [*]; rfl), kb_alloc _ _ _⟩
        · have gx := str1 hx
          rw [dc_f (by simp [*])]
          clear hr hp hpI ho hm hg hx
          go_enter Try.func80, Try.ntmps80
          go_wp2_with fail
          go_ret
          exact ⟨by first | rfl | (simp only [*]; rfl), kb_alloc _ _ _⟩
      · skip
        rw [dc_f (by simp [*])]
        clear hr hp hpI ho hm hg
        go_enter Try.func80, Try.ntmps80
        go_wp2_with fail
        go_ret
        exact ⟨by first | rfl | (simp only [*]; rfl), kb_alloc _ _ _⟩
      · skip
        rw [dc_f (by simp [*])]
        clear hr hp hpI ho hm hg
        go_enter Try.func80, Try.ntmps80
        go_wp2_with fail
        go_ret
        exact ⟨by first | rfl | (simp only [*]; rfl), kb_alloc _ _ _⟩
    · have gm := bne hm
      rw [dc_f (by simp [*])]
      clear hr hp hpI ho hm
      go_enter Try.func80, Try.ntmps80
      go_wp2_with fail
      go_ret
      exact ⟨by first | rfl | (simp only [*]; rfl), kb_alloc _ _ _⟩
  · have go := bne ho
    rw [dc_f (by simp [*])]
    clear hr hp hpI ho
    go_enter Try.func80, Try.ntmps80
    go_wp2_with fail
    go_ret
    exact ⟨by first | rfl | (simp only [*]; rfl), kb_alloc _ _ _⟩
set_option maxHeartbeats 8000000 in
theorem sp_bare_o (a : Nv) (hga : a.g < 18446744073709551616) (pr : Option Addr) (p cr : Nat) (pk : Option Addr) (q ck : Nat) (r : Int) (hr : -1 ≤ r ∧ r ≤ 1048576) (hp : p ≤ 1048576) (w : World) :
    Calls Try.prog 80 #[ndv a (.slice pr p cr) (.slice pk q ck), .bool true, .bool false, .bool false, .bool false, .int .i64 r] w fun e w' => e = .returned (.bool (dc (Br true false false false a p r))) ∧ Kb 0 w w' := by
  unfold ndv Br
  have hpI : (p : Int) ≤ 1048576 := by omega
  obtain ⟨k, l, o, m, g, x⟩ := a
  have hfc := f_cases g hga
  clear hga
  dsimp only
  by_cases hm : m = 0
  · have gm := beq1 hm
    rcases hfc with ⟨hg, _, _, gg⟩ | ⟨hg, _, _, gg⟩ | ⟨hg, _, _, gg | gg⟩
    · skip
      rw [dc_f (by simp [*])]
      clear hr hp hpI hm hg
      go_enter Try.func80, Try.ntmps80
      go_wp2_with fail
      go_ret
      exact ⟨by first | rfl | (simp only [*]; rfl), kb_alloc _ _ _⟩
    · skip
      by_cases hx : x = ⟨#[]⟩
      · have gx := str0 hx
        by_cases hp2 : (p : Int) = r
        · have gp := beq1 hp2
          rw [dc_t (by simp [*])]
          clear hr hp hpI hm hg hx hp2
          go_enter Try.func80, Try.ntmps80
          go_wp2_with fail
          go_ret
          exact ⟨by first | rfl | (simp only [*]; rfl), kb_alloc _ _ _⟩
        · have gp := bne hp2
          rw [dc_f (by simp [*])]
          clear hr hp hpI hm hg hx hp2
          go_enter Try.func80, Try.ntmps80
          go_wp2_with fail
          go_ret
          exact ⟨by first | rfl | (simp only [*]; rfl), kb_alloc _ _ _⟩
      · have gx := str1 hx
        rw [dc_f (by simp [*])]
        clear hr hp hpI hm hg hx
        go_enter Try.func80, Try.ntmps80
        go_wp2_with fail
        go_ret
        exact ⟨by first | rfl | (simp only [*]; rfl), kb_alloc _ _ _⟩
    · skip
      rw [dc_f (by simp [*])]
      clear hr hp hpI hm hg
      go_enter Try.func80, Try.ntmps80
      go_wp2_with fail
      go_ret
      exact ⟨by first | rfl | (simp only [*]; rfl), kb_alloc _ _ _⟩
    · skip
      rw [dc_f (by simp [*])]
      clear hr hp hpI hm hg
      go_enter Try.func80, Try.ntmps80
      go_wp2_with fail
      go_ret
      exact ⟨by first | rfl | (simp only [*]; rfl), kb_alloc _ _ _⟩
  · have gm := bne hm
    rw [dc_f (by simp [*])]
    clear hr hp hpI hm
    go_enter Try.func80, Try.ntmps80
    go_wp2_with fail
    go_ret
    exact ⟨by first | rfl | (simp only [*]; rfl), kb_alloc _ _ _⟩
set_option maxHeartbeats 8000000 in
theorem sp_bare_m (a : Nv) (hga : a.g < 18446744073709551616) (pr : Option Addr) (p cr : Nat) (pk : Option Addr) (q ck : Nat) (r : Int) (hr : -1 ≤ r ∧ r ≤ 1048576) (hp : p ≤ 1048576) (w : World) :
    Calls Try.prog 80 #[ndv a (.slice pr p cr) (.slice pk q ck), .bool false, .bool true, .bool false, .bool false, .int .i64 r] w fun e w' => e = .returned (.bool (dc (Br false true false false a p r))) ∧ Kb 0 w w' := by
  unfold ndv Br
  have hpI : (p : Int) ≤ 1048576 := by omega
  obtain ⟨k, l, o, m, g, x⟩ := a
  have hfc := f_cases g hga
  clear hga
  dsimp only
  by_cases ho : o = 0
  · have go := beq1 ho
    rcases hfc with ⟨hg, _, _, gg⟩ | ⟨hg, _, _, gg⟩ | ⟨hg, _, _, gg | gg⟩
    · skip
      rw [dc_f (by simp [*])]
      clear hr hp hpI ho hg
      go_enter Try.func80, Try.ntmps80
      go_wp2_with fail
      go_ret
      exact ⟨by first | rfl | (simp only [*]; rfl), kb_alloc _ _ _⟩
    · skip
      by_cases hx : x = ⟨#[]⟩
      · have gx := str0 hx
        by_cases hp2 : (p : Int) = r
        · have gp := beq1 hp2
          rw [dc_t (by simp [*])]
          clear hr hp hpI ho hg hx hp2
          go_enter Try.func80, Try.ntmps80
          go_wp2_with fail
          go_ret
          exact ⟨by first | rfl | (simp only [*]; rfl), kb_alloc _ _ _⟩
        · have gp := bne hp2
          rw [dc_f (by simp [*])]
          clear hr hp hpI ho hg hx hp2
          go_enter Try.func80, Try.ntmps80
          go_wp2_with fail
          go_ret
          exact ⟨by first | rfl | (simp only [*]; rfl), kb_alloc _ _ _⟩
      · have gx := str1 hx
        rw [dc_f (by simp [*])]
        clear hr hp hpI ho hg hx
        go_enter Try.func80, Try.ntmps80
        go_wp2_with fail
        go_ret
        exact ⟨by first | rfl | (simp only [*]; rfl), kb_alloc _ _ _⟩
    · skip
      rw [dc_f (by simp [*])]
      clear hr hp hpI ho hg
      go_enter Try.func80, Try.ntmps80
      go_wp2_with fail
      go_ret
      exact ⟨by first | rfl | (simp only [*]; rfl), kb_alloc _ _ _⟩
    · skip
      rw [dc_f (by simp [*])]
      clear hr hp hpI ho hg
      go_enter Try.func80, Try.ntmps80
      go_wp2_with fail
      go_ret
      exact ⟨by first | rfl | (simp only [*]; rfl), kb_alloc _ _ _⟩
  · have go := bne ho
    rw [dc_f (by simp [*])]
    clear hr hp hpI ho
    go_enter Try.func80, Try.ntmps80
    go_wp2_with fail
    go_ret
    exact ⟨by first | rfl | (simp only [*]; rfl), kb_alloc _ _ _⟩
set_option maxHeartbeats 8000000 in
theorem sp_bare_g (a : Nv) (hga : a.g < 18446744073709551616) (pr : Option Addr) (p cr : Nat) (pk : Option Addr) (q ck : Nat) (r : Int) (hr : -1 ≤ r ∧ r ≤ 1048576) (hp : p ≤ 1048576) (w : World) :
    Calls Try.prog 80 #[ndv a (.slice pr p cr) (.slice pk q ck), .bool false, .bool false, .bool true, .bool false, .int .i64 r] w fun e w' => e = .returned (.bool (dc (Br false false true false a p r))) ∧ Kb 0 w w' := by
  unfold ndv Br
  have hpI : (p : Int) ≤ 1048576 := by omega
  obtain ⟨k, l, o, m, g, x⟩ := a
  have hfc := f_cases g hga
  clear hga
  dsimp only
  by_cases ho : o = 0
  · have go := beq1 ho
    by_cases hm : m = 0
    · have gm := beq1 hm
      by_cases hx : x = ⟨#[]⟩
      · have gx := str0 hx
        by_cases hp2 : (p : Int) = r
        · have gp := beq1 hp2
          rw [dc_t (by simp [*])]
          clear hr hp hpI hfc ho hm hx hp2
          go_enter Try.func80, Try.ntmps80
          go_wp2_with fail
          go_ret
          exact ⟨by first | rfl | (simp only [*]; rfl), kb_alloc _ _ _⟩
        · have gp := bne hp2
          rw [dc_f (by simp [*])]
          clear hr hp hpI hfc ho hm hx hp2
          go_enter Try.func80, Try.ntmps80
          go_wp2_with fail
          go_ret
          exact ⟨by first | rfl | (simp only [*]; rfl), kb_alloc _ _ _⟩
      · have gx := str1 hx
        rw [dc_f (by simp [*])]
        clear hr hp hpI hfc ho hm hx
        go_enter Try.func80, Try.ntmps80
        go_wp2_with fail
        go_ret
        exact ⟨by first | rfl | (simp only [*]; rfl), kb_alloc _ _ _⟩
    · have gm := bne hm
      rw [dc_f (by simp [*])]
      clear hr hp hpI hfc ho hm
      go_enter Try.func80, Try.ntmps80
      go_wp2_with fail
      go_ret
      exact ⟨by first | rfl | (simp only [*]; rfl), kb_alloc _ _ _⟩
  · have go := bne ho
    rw [dc_f (by simp [*])]
    clear hr hp hpI hfc ho
    go_enter Try.func80, Try.ntmps80
    go_wp2_with fail
    go_ret
    exact ⟨by first | rfl | (simp only [*]; rfl), kb_alloc _ _ _⟩
set_option maxHeartbeats 8000000 in
theorem sp_bare_x (a : Nv) (hga : a.g < 18446744073709551616) (pr : Option Addr) (p cr : Nat) (pk : Option Addr) (q ck : Nat) (r : Int) (hr : -1 ≤ r ∧ r ≤ 1048576) (hp : p ≤ 1048576) (w : World) :
    Calls Try.prog 80 #[ndv a (.slice pr p cr) (.slice pk q ck), .bool false, .bool false, .bool false, .bool true, .int .i64 r] w fun e w' => e = .returned (.bool (dc (Br false false false true a p r))) ∧ Kb 0 w w' := by
  unfold ndv Br
  have hpI : (p : Int) ≤ 1048576 := by omega
  obtain ⟨k, l, o, m, g, x⟩ := a
  have hfc := f_cases g hga
  clear hga
  dsimp only
  by_cases ho : o = 0
  · have go := beq1 ho
    by_cases hm : m = 0
    · have gm := beq1 hm
      rcases hfc with ⟨hg, _, _, gg⟩ | ⟨hg, _, _, gg⟩ | ⟨hg, _, _, gg | gg⟩
      · skip
        rw [dc_f (by simp [*])]
        clear hr hp hpI ho hm hg
        go_enter Try.func80, Try.ntmps80
        go_wp2_with fail
        go_ret
        exact ⟨by first | rfl | (simp only [*]; rfl), kb_alloc _ _ _⟩
      · skip
        by_cases hp2 : (p : Int) = r
        · have gp := beq1 hp2
          rw [dc_t (by simp [*])]
          clear hr hp hpI ho hm hg hp2
          go_enter Try.func80, Try.ntmps80
          go_wp2_with fail
          go_ret
          exact ⟨by first | rfl | (simp only [*]; rfl), kb_alloc _ _ _⟩
        · have gp := bne hp2
          rw [dc_f (by simp [*])]
          clear hr hp hpI ho hm hg hp2
          go_enter Try.func80, Try.ntmps80
          go_wp2_with fail
          go_ret
          exact ⟨by first | rfl | (simp only [*]; rfl), kb_alloc _ _ _⟩
      · skip
        rw [dc_f (by simp [*])]
        clear hr hp hpI ho hm hg
        go_enter Try.func80, Try.ntmps80
        go_wp2_with fail
        go_ret
        exact ⟨by first | rfl | (simp only [*]; rfl), kb_alloc _ _ _⟩
      · skip
        rw [dc_f (by simp [*])]
        clear hr hp hpI ho hm hg
        go_enter Try.func80, Try.ntmps80
        go_wp2_with fail
        go_ret
        exact ⟨by first | rfl | (simp only [*]; rfl), kb_alloc _ _ _⟩
    · have gm := bne hm
      rw [dc_f (by simp [*])]
      clear hr hp hpI ho hm
      go_enter Try.func80, Try.ntmps80
      go_wp2_with fail
      go_ret
      exact ⟨by first | rfl | (simp only [*]; rfl), kb_alloc _ _ _⟩
  · have go := bne ho
    rw [dc_f (by simp [*])]
    clear hr hp hpI ho
    go_enter Try.func80, Try.ntmps80
    go_wp2_with fail
    go_ret
    exact ⟨by first | rfl | (simp only [*]; rfl), kb_alloc _ _ _⟩
end Go.Proofs.Ytieccnkabllamaa.Fo
