import Derived.Test.YtipiahdcmjchjaaMNbh
set_option maxHeartbeats 8000000
namespace Go.Proofs.Ytipiahdcmjchjaa.Fo
open Go.ChangeShapes Go.WideShapes Go.ChangeAt Go.RowKit
set_option linter.unusedVariables false
set_option maxRecDepth 100000
theorem tks_1 (a : Nv) (vr : Value) (hv : ∃ pr p cr, vr = .slice pr p cr) (pk : Option Addr) (q ck i : Nat) (c : Int) (hq : (q : Int) ≤ 1048576) (hi0 : (i : Int) ≤ 1048576) (w : World) :
    Calls Try.prog 120 #[.agg #[.int .i64 1,.int .i64 a.l,.int .i64 a.o,.int .i64 a.m,.float .f64 a.g,.string a.x,vr,.slice pk q ck],.int .i64 (i : Int),.int .i64 c] w fun e w'=>e = .returned (.bool (dc (c ≤ 14))) ∧ Kb 0 w w':=by
  obtain ⟨pr,p,cr,rfl⟩:=hv
  by_cases hs : c ≤ 14
  · skip
    rw [dc_t (hs)]
    go_enter Try.func120,Try.ntmps120
    go_wp2_with go_in
    go_ret
    exact ⟨by first | rfl | (simp only [*];rfl) | simp [*],by repeat (first | exact Kb.refl _ _ | apply Kb.alloc)⟩
  · have hsn : ¬ c ≤ 14:=hs
    rw [dc_f (fun g=>(hs) g)]
    go_enter Try.func120,Try.ntmps120
    go_wp2_with go_in
    go_ret
    exact ⟨by first | rfl | (simp only [*];rfl) | simp [*],by repeat (first | exact Kb.refl _ _ | apply Kb.alloc)⟩
theorem tks_2 (a : Nv) (vr : Value) (hv : ∃ pr p cr, vr = .slice pr p cr) (pk : Option Addr) (q ck i : Nat) (c : Int) (hq : (q : Int) ≤ 1048576) (hi0 : (i : Int) ≤ 1048576) (w : World) :
    Calls Try.prog 120 #[.agg #[.int .i64 2,.int .i64 a.l,.int .i64 a.o,.int .i64 a.m,.float .f64 a.g,.string a.x,vr,.slice pk q ck],.int .i64 (i : Int),.int .i64 c] w fun e w'=>e = .returned (.bool (dc (14 < c))) ∧ Kb 0 w w':=by
  obtain ⟨pr,p,cr,rfl⟩:=hv
  by_cases hs : 14 < c
  · have hsb : ¬ c ≤ 14:=by omega
    rw [dc_t (hs)]
    go_enter Try.func120,Try.ntmps120
    go_wp2_with go_in
    go_ret
    exact ⟨by first | rfl | (simp only [*];rfl) | simp [*],by repeat (first | exact Kb.refl _ _ | apply Kb.alloc)⟩
  · have hsb : c ≤ 14:=by omega
    rw [dc_f (fun g=>(hs) g)]
    go_enter Try.func120,Try.ntmps120
    go_wp2_with go_in
    go_ret
    exact ⟨by first | rfl | (simp only [*];rfl) | simp [*],by repeat (first | exact Kb.refl _ _ | apply Kb.alloc)⟩
theorem tks_3 (a : Nv) (vr : Value) (hv : ∃ pr p cr, vr = .slice pr p cr) (pk : Option Addr) (q ck i : Nat) (c : Int) (hq : (q : Int) ≤ 1048576) (hi0 : (i : Int) ≤ 1048576) (w : World) :
    Calls Try.prog 120 #[.agg #[.int .i64 3,.int .i64 a.l,.int .i64 a.o,.int .i64 a.m,.float .f64 a.g,.string a.x,vr,.slice pk q ck],.int .i64 (i : Int),.int .i64 c] w fun e w'=>e = .returned (.bool (dc (((i : Int) < a.m → c = 26 ∨ c = 27 ∨ c = 33) ∧ (¬ (i : Int) < a.m → 14 < c)))) ∧ Kb 0 w w':=by
  obtain ⟨pr,p,cr,rfl⟩:=hv
  by_cases hi : (i : Int) < a.m
  · skip
    by_cases h1 : c = 26
    · have g1:=beq1 h1
      rw [dc_t (⟨fun _=>Or.inl h1,fun z=>absurd hi z⟩)]
      clear h1
      go_enter Try.func120,Try.ntmps120
      go_wp2_with go_in
      go_ret
      exact ⟨by first | rfl | (simp only [*];rfl) | simp [*],by repeat (first | exact Kb.refl _ _ | apply Kb.alloc)⟩
    · have g1:=bne h1
      by_cases h2 : c = 27
      · have g2:=beq1 h2
        rw [dc_t (⟨fun _=>Or.inr (Or.inl h2),fun z=>absurd hi z⟩)]
        clear h1 h2
        go_enter Try.func120,Try.ntmps120
        go_wp2_with go_in
        go_ret
        exact ⟨by first | rfl | (simp only [*];rfl) | simp [*],by repeat (first | exact Kb.refl _ _ | apply Kb.alloc)⟩
      · have g2:=bne h2
        by_cases h3 : c = 33
        · have g3:=beq1 h3
          rw [dc_t (⟨fun _=>Or.inr (Or.inr h3),fun z=>absurd hi z⟩)]
          clear h1 h2 h3
          go_enter Try.func120,Try.ntmps120
          go_wp2_with go_in
          go_ret
          exact ⟨by first | rfl | (simp only [*];rfl) | simp [*],by repeat (first | exact Kb.refl _ _ | apply Kb.alloc)⟩
        · have g3:=bne h3
          rw [dc_f (fun g=>(fun z=>(z.1 hi).elim h1 (fun z=>z.elim h2 h3)) g)]
          clear h1 h2 h3
          go_enter Try.func120,Try.ntmps120
          go_wp2_with go_in
          go_ret
          exact ⟨by first | rfl | (simp only [*];rfl) | simp [*],by repeat (first | exact Kb.refl _ _ | apply Kb.alloc)⟩
  · have hin : ¬ (i : Int) < a.m:=hi
    by_cases hs : 14 < c
    · have hsb : ¬ c ≤ 14:=by omega
      rw [dc_t (⟨fun z=>absurd z hi,fun _=>hs⟩)]
      go_enter Try.func120,Try.ntmps120
      go_wp2_with go_in
      go_ret
      exact ⟨by first | rfl | (simp only [*];rfl) | simp [*],by repeat (first | exact Kb.refl _ _ | apply Kb.alloc)⟩
    · have hsb : c ≤ 14:=by omega
      rw [dc_f (fun g=>(fun z=>hs (z.2 hi)) g)]
      go_enter Try.func120,Try.ntmps120
      go_wp2_with go_in
      go_ret
      exact ⟨by first | rfl | (simp only [*];rfl) | simp [*],by repeat (first | exact Kb.refl _ _ | apply Kb.alloc)⟩
theorem tks_4 (a : Nv) (vr : Value) (hv : ∃ pr p cr, vr = .slice pr p cr) (pk : Option Addr) (q ck i : Nat) (c : Int) (hq : (q : Int) ≤ 1048576) (hi0 : (i : Int) ≤ 1048576) (w : World) :
    Calls Try.prog 120 #[.agg #[.int .i64 4,.int .i64 a.l,.int .i64 a.o,.int .i64 a.m,.float .f64 a.g,.string a.x,vr,.slice pk q ck],.int .i64 (i : Int),.int .i64 c] w fun e w'=>e = .returned (.bool (dc (c = 34))) ∧ Kb 0 w w':=by
  obtain ⟨pr,p,cr,rfl⟩:=hv
  by_cases hc : c = 34
  · have gc:=beq1 hc
    rw [dc_t (hc)]
    clear hc
    go_enter Try.func120,Try.ntmps120
    go_wp2_with go_in
    go_ret
    exact ⟨by first | rfl | (simp only [*];rfl) | simp [*],by repeat (first | exact Kb.refl _ _ | apply Kb.alloc)⟩
  · have gc:=bne hc
    rw [dc_f (fun g=>(hc) g)]
    clear hc
    go_enter Try.func120,Try.ntmps120
    go_wp2_with go_in
    go_ret
    exact ⟨by first | rfl | (simp only [*];rfl) | simp [*],by repeat (first | exact Kb.refl _ _ | apply Kb.alloc)⟩
theorem tks_5 (a : Nv) (vr : Value) (hv : ∃ pr p cr, vr = .slice pr p cr) (pk : Option Addr) (q ck i : Nat) (c : Int) (hq : (q : Int) ≤ 1048576) (hi0 : (i : Int) ≤ 1048576) (w : World) :
    Calls Try.prog 120 #[.agg #[.int .i64 5,.int .i64 a.l,.int .i64 a.o,.int .i64 a.m,.float .f64 a.g,.string a.x,vr,.slice pk q ck],.int .i64 (i : Int),.int .i64 c] w fun e w'=>e = .returned (.bool (dc ((0 < i → c = 1 ∨ (i = 2 ∧ c = 5)) ∧ (¬ 0 < i → 14 < c)))) ∧ Kb 0 w w':=by
  obtain ⟨pr,p,cr,rfl⟩:=hv
  by_cases hi : 0 < i
  · have hiI : (0 : Int) < (i : Int):=by omega
    by_cases h1 : c = 1
    · have g1:=beq1 h1
      rw [dc_t (⟨fun _=>Or.inl h1,fun z=>absurd hi z⟩)]
      clear h1
      go_enter Try.func120,Try.ntmps120
      go_wp2_with go_in
      go_ret
      exact ⟨by first | rfl | (simp only [*];rfl) | simp [*],by repeat (first | exact Kb.refl _ _ | apply Kb.alloc)⟩
    · have g1:=bne h1
      by_cases h2 : i = 2
      · subst h2
        by_cases h3 : c = 5
        · have g3:=beq1 h3
          rw [dc_t (⟨fun _=>Or.inr ⟨rfl,h3⟩,fun z=>absurd hi z⟩)]
          clear h1 h3
          go_enter Try.func120,Try.ntmps120
          go_wp2_with go_in
          go_ret
          exact ⟨by first | rfl | (simp only [*];rfl) | simp [*],by repeat (first | exact Kb.refl _ _ | apply Kb.alloc)⟩
        · have g3:=bne h3
          rw [dc_f (fun g=>(fun z=>(z.1 hi).elim h1 (fun z=>h3 z.2)) g)]
          clear h1 h3
          go_enter Try.func120,Try.ntmps120
          go_wp2_with go_in
          go_ret
          exact ⟨by first | rfl | (simp only [*];rfl) | simp [*],by repeat (first | exact Kb.refl _ _ | apply Kb.alloc)⟩
      · have g2 : ((i : Int) == 2) = false:=bne (by omega)
        rw [dc_f (fun g=>(fun z=>(z.1 hi).elim h1 (fun z=>h2 z.1)) g)]
        clear h1 h2
        go_enter Try.func120,Try.ntmps120
        go_wp2_with go_in
        go_ret
        exact ⟨by first | rfl | (simp only [*];rfl) | simp [*],by repeat (first | exact Kb.refl _ _ | apply Kb.alloc)⟩
  · have hiI : ¬ (0 : Int) < (i : Int):=by omega
    by_cases hs : 14 < c
    · have hsb : ¬ c ≤ 14:=by omega
      rw [dc_t (⟨fun z=>absurd z hi,fun _=>hs⟩)]
      go_enter Try.func120,Try.ntmps120
      go_wp2_with go_in
      go_ret
      exact ⟨by first | rfl | (simp only [*];rfl) | simp [*],by repeat (first | exact Kb.refl _ _ | apply Kb.alloc)⟩
    · have hsb : c ≤ 14:=by omega
      rw [dc_f (fun g=>(fun z=>hs (z.2 hi)) g)]
      go_enter Try.func120,Try.ntmps120
      go_wp2_with go_in
      go_ret
      exact ⟨by first | rfl | (simp only [*];rfl) | simp [*],by repeat (first | exact Kb.refl _ _ | apply Kb.alloc)⟩
theorem tks_6 (a : Nv) (vr : Value) (hv : ∃ pr p cr, vr = .slice pr p cr) (pk : Option Addr) (q ck i : Nat) (c : Int) (hq : (q : Int) ≤ 1048576) (hi0 : (i : Int) ≤ 1048576) (w : World) :
    Calls Try.prog 120 #[.agg #[.int .i64 6,.int .i64 a.l,.int .i64 a.o,.int .i64 a.m,.float .f64 a.g,.string a.x,vr,.slice pk q ck],.int .i64 (i : Int),.int .i64 c] w fun e w'=>e = .returned (.bool (dc ((i + 1 = q → c = 1) ∧ (¬ i + 1 = q → 14 < c)))) ∧ Kb 0 w w':=by
  obtain ⟨pr,p,cr,rfl⟩:=hv
  by_cases hi : i + 1 = q
  · have hiI : ((i : Int) == (q : Int) - 1) = true:=beq1 (by omega)
    by_cases h1 : c = 1
    · have g1:=beq1 h1
      rw [dc_t (⟨fun _=>h1,fun z=>absurd hi z⟩)]
      clear h1
      go_enter Try.func120,Try.ntmps120
      go_wp2_with go_in
      go_ret
      exact ⟨by first | rfl | (simp only [*];rfl) | simp [*],by repeat (first | exact Kb.refl _ _ | apply Kb.alloc)⟩
    · have g1:=bne h1
      rw [dc_f (fun g=>(fun z=>h1 (z.1 hi)) g)]
      clear h1
      go_enter Try.func120,Try.ntmps120
      go_wp2_with go_in
      go_ret
      exact ⟨by first | rfl | (simp only [*];rfl) | simp [*],by repeat (first | exact Kb.refl _ _ | apply Kb.alloc)⟩
  · have hiI : ((i : Int) == (q : Int) - 1) = false:=bne (by omega)
    by_cases hs : 14 < c
    · have hsb : ¬ c ≤ 14:=by omega
      rw [dc_t (⟨fun z=>absurd z hi,fun _=>hs⟩)]
      go_enter Try.func120,Try.ntmps120
      go_wp2_with go_in
      go_ret
      exact ⟨by first | rfl | (simp only [*];rfl) | simp [*],by repeat (first | exact Kb.refl _ _ | apply Kb.alloc)⟩
    · have hsb : c ≤ 14:=by omega
      rw [dc_f (fun g=>(fun z=>hs (z.2 hi)) g)]
      go_enter Try.func120,Try.ntmps120
      go_wp2_with go_in
      go_ret
      exact ⟨by first | rfl | (simp only [*];rfl) | simp [*],by repeat (first | exact Kb.refl _ _ | apply Kb.alloc)⟩
theorem tks_7 (a : Nv) (vr : Value) (hv : ∃ pr p cr, vr = .slice pr p cr) (pk : Option Addr) (q ck i : Nat) (c : Int) (hq : (q : Int) ≤ 1048576) (hi0 : (i : Int) ≤ 1048576) (w : World) :
    Calls Try.prog 120 #[.agg #[.int .i64 7,.int .i64 a.l,.int .i64 a.o,.int .i64 a.m,.float .f64 a.g,.string a.x,vr,.slice pk q ck],.int .i64 (i : Int),.int .i64 c] w fun e w'=>e = .returned (.bool (dc ((i + 1 = q → c = 1) ∧ (¬ i + 1 = q → 14 < c)))) ∧ Kb 0 w w':=by
  obtain ⟨pr,p,cr,rfl⟩:=hv
  by_cases hi : i + 1 = q
  · have hiI : ((i : Int) == (q : Int) - 1) = true:=beq1 (by omega)
    by_cases h1 : c = 1
    · have g1:=beq1 h1
      rw [dc_t (⟨fun _=>h1,fun z=>absurd hi z⟩)]
      clear h1
      go_enter Try.func120,Try.ntmps120
      go_wp2_with go_in
      go_ret
      exact ⟨by first | rfl | (simp only [*];rfl) | simp [*],by repeat (first | exact Kb.refl _ _ | apply Kb.alloc)⟩
    · have g1:=bne h1
      rw [dc_f (fun g=>(fun z=>h1 (z.1 hi)) g)]
      clear h1
      go_enter Try.func120,Try.ntmps120
      go_wp2_with go_in
      go_ret
      exact ⟨by first | rfl | (simp only [*];rfl) | simp [*],by repeat (first | exact Kb.refl _ _ | apply Kb.alloc)⟩
  · have hiI : ((i : Int) == (q : Int) - 1) = false:=bne (by omega)
    by_cases hs : 14 < c
    · have hsb : ¬ c ≤ 14:=by omega
      rw [dc_t (⟨fun z=>absurd z hi,fun _=>hs⟩)]
      go_enter Try.func120,Try.ntmps120
      go_wp2_with go_in
      go_ret
      exact ⟨by first | rfl | (simp only [*];rfl) | simp [*],by repeat (first | exact Kb.refl _ _ | apply Kb.alloc)⟩
    · have hsb : c ≤ 14:=by omega
      rw [dc_f (fun g=>(fun z=>hs (z.2 hi)) g)]
      go_enter Try.func120,Try.ntmps120
      go_wp2_with go_in
      go_ret
      exact ⟨by first | rfl | (simp only [*];rfl) | simp [*],by repeat (first | exact Kb.refl _ _ | apply Kb.alloc)⟩
theorem tks_8 (a : Nv) (vr : Value) (hv : ∃ pr p cr, vr = .slice pr p cr) (pk : Option Addr) (q ck i : Nat) (c : Int) (hq : (q : Int) ≤ 1048576) (hi0 : (i : Int) ≤ 1048576) (w : World) :
    Calls Try.prog 120 #[.agg #[.int .i64 8,.int .i64 a.l,.int .i64 a.o,.int .i64 a.m,.float .f64 a.g,.string a.x,vr,.slice pk q ck],.int .i64 (i : Int),.int .i64 c] w fun e w'=>e = .returned (.bool (dc ((i + 1 = q → c = 1) ∧ (¬ i + 1 = q → 14 < c)))) ∧ Kb 0 w w':=by
  obtain ⟨pr,p,cr,rfl⟩:=hv
  by_cases hi : i + 1 = q
  · have hiI : ((i : Int) == (q : Int) - 1) = true:=beq1 (by omega)
    by_cases h1 : c = 1
    · have g1:=beq1 h1
      rw [dc_t (⟨fun _=>h1,fun z=>absurd hi z⟩)]
      clear h1
      go_enter Try.func120,Try.ntmps120
      go_wp2_with go_in
      go_ret
      exact ⟨by first | rfl | (simp only [*];rfl) | simp [*],by repeat (first | exact Kb.refl _ _ | apply Kb.alloc)⟩
    · have g1:=bne h1
      rw [dc_f (fun g=>(fun z=>h1 (z.1 hi)) g)]
      clear h1
      go_enter Try.func120,Try.ntmps120
      go_wp2_with go_in
      go_ret
      exact ⟨by first | rfl | (simp only [*];rfl) | simp [*],by repeat (first | exact Kb.refl _ _ | apply Kb.alloc)⟩
  · have hiI : ((i : Int) == (q : Int) - 1) = false:=bne (by omega)
    by_cases hs : 14 < c
    · have hsb : ¬ c ≤ 14:=by omega
      rw [dc_t (⟨fun z=>absurd z hi,fun _=>hs⟩)]
      go_enter Try.func120,Try.ntmps120
      go_wp2_with go_in
      go_ret
      exact ⟨by first | rfl | (simp only [*];rfl) | simp [*],by repeat (first | exact Kb.refl _ _ | apply Kb.alloc)⟩
    · have hsb : c ≤ 14:=by omega
      rw [dc_f (fun g=>(fun z=>hs (z.2 hi)) g)]
      go_enter Try.func120,Try.ntmps120
      go_wp2_with go_in
      go_ret
      exact ⟨by first | rfl | (simp only [*];rfl) | simp [*],by repeat (first | exact Kb.refl _ _ | apply Kb.alloc)⟩
theorem tks_9 (a : Nv) (vr : Value) (hv : ∃ pr p cr, vr = .slice pr p cr) (pk : Option Addr) (q ck i : Nat) (c : Int) (hq : (q : Int) ≤ 1048576) (hi0 : (i : Int) ≤ 1048576) (w : World) :
    Calls Try.prog 120 #[.agg #[.int .i64 9,.int .i64 a.l,.int .i64 a.o,.int .i64 a.m,.float .f64 a.g,.string a.x,vr,.slice pk q ck],.int .i64 (i : Int),.int .i64 c] w fun e w'=>e = .returned (.bool (dc (14 < c))) ∧ Kb 0 w w':=by
  obtain ⟨pr,p,cr,rfl⟩:=hv
  by_cases hs : 14 < c
  · have hsb : ¬ c ≤ 14:=by omega
    rw [dc_t (hs)]
    go_enter Try.func120,Try.ntmps120
    go_wp2_with go_in
    go_ret
    exact ⟨by first | rfl | (simp only [*];rfl) | simp [*],by repeat (first | exact Kb.refl _ _ | apply Kb.alloc)⟩
  · have hsb : c ≤ 14:=by omega
    rw [dc_f (fun g=>(hs) g)]
    go_enter Try.func120,Try.ntmps120
    go_wp2_with go_in
    go_ret
    exact ⟨by first | rfl | (simp only [*];rfl) | simp [*],by repeat (first | exact Kb.refl _ _ | apply Kb.alloc)⟩
theorem tks_10 (a : Nv) (vr : Value) (hv : ∃ pr p cr, vr = .slice pr p cr) (pk : Option Addr) (q ck i : Nat) (c : Int) (hq : (q : Int) ≤ 1048576) (hi0 : (i : Int) ≤ 1048576) (w : World) :
    Calls Try.prog 120 #[.agg #[.int .i64 10,.int .i64 a.l,.int .i64 a.o,.int .i64 a.m,.float .f64 a.g,.string a.x,vr,.slice pk q ck],.int .i64 (i : Int),.int .i64 c] w fun e w'=>e = .returned (.bool (dc (14 < c))) ∧ Kb 0 w w':=by
  obtain ⟨pr,p,cr,rfl⟩:=hv
  by_cases hs : 14 < c
  · have hsb : ¬ c ≤ 14:=by omega
    rw [dc_t (hs)]
    go_enter Try.func120,Try.ntmps120
    go_wp2_with go_in
    go_ret
    exact ⟨by first | rfl | (simp only [*];rfl) | simp [*],by repeat (first | exact Kb.refl _ _ | apply Kb.alloc)⟩
  · have hsb : c ≤ 14:=by omega
    rw [dc_f (fun g=>(hs) g)]
    go_enter Try.func120,Try.ntmps120
    go_wp2_with go_in
    go_ret
    exact ⟨by first | rfl | (simp only [*];rfl) | simp [*],by repeat (first | exact Kb.refl _ _ | apply Kb.alloc)⟩
theorem tks_11 (a : Nv) (vr : Value) (hv : ∃ pr p cr, vr = .slice pr p cr) (pk : Option Addr) (q ck i : Nat) (c : Int) (hq : (q : Int) ≤ 1048576) (hi0 : (i : Int) ≤ 1048576) (w : World) :
    Calls Try.prog 120 #[.agg #[.int .i64 11,.int .i64 a.l,.int .i64 a.o,.int .i64 a.m,.float .f64 a.g,.string a.x,vr,.slice pk q ck],.int .i64 (i : Int),.int .i64 c] w fun e w'=>e = .returned (.bool (dc (14 < c))) ∧ Kb 0 w w':=by
  obtain ⟨pr,p,cr,rfl⟩:=hv
  by_cases hs : 14 < c
  · have hsb : ¬ c ≤ 14:=by omega
    rw [dc_t (hs)]
    go_enter Try.func120,Try.ntmps120
    go_wp2_with go_in
    go_ret
    exact ⟨by first | rfl | (simp only [*];rfl) | simp [*],by repeat (first | exact Kb.refl _ _ | apply Kb.alloc)⟩
  · have hsb : c ≤ 14:=by omega
    rw [dc_f (fun g=>(hs) g)]
    go_enter Try.func120,Try.ntmps120
    go_wp2_with go_in
    go_ret
    exact ⟨by first | rfl | (simp only [*];rfl) | simp [*],by repeat (first | exact Kb.refl _ _ | apply Kb.alloc)⟩
theorem tks_12 (a : Nv) (vr : Value) (hv : ∃ pr p cr, vr = .slice pr p cr) (pk : Option Addr) (q ck i : Nat) (c : Int) (hq : (q : Int) ≤ 1048576) (hi0 : (i : Int) ≤ 1048576) (w : World) :
    Calls Try.prog 120 #[.agg #[.int .i64 12,.int .i64 a.l,.int .i64 a.o,.int .i64 a.m,.float .f64 a.g,.string a.x,vr,.slice pk q ck],.int .i64 (i : Int),.int .i64 c] w fun e w'=>e = .returned (.bool (dc (c = 1))) ∧ Kb 0 w w':=by
  obtain ⟨pr,p,cr,rfl⟩:=hv
  by_cases hc : c = 1
  · have gc:=beq1 hc
    rw [dc_t (hc)]
    clear hc
    go_enter Try.func120,Try.ntmps120
    go_wp2_with go_in
    go_ret
    exact ⟨by first | rfl | (simp only [*];rfl) | simp [*],by repeat (first | exact Kb.refl _ _ | apply Kb.alloc)⟩
  · have gc:=bne hc
    rw [dc_f (fun g=>(hc) g)]
    clear hc
    go_enter Try.func120,Try.ntmps120
    go_wp2_with go_in
    go_ret
    exact ⟨by first | rfl | (simp only [*];rfl) | simp [*],by repeat (first | exact Kb.refl _ _ | apply Kb.alloc)⟩
theorem tks_13 (a : Nv) (vr : Value) (hv : ∃ pr p cr, vr = .slice pr p cr) (pk : Option Addr) (q ck i : Nat) (c : Int) (hq : (q : Int) ≤ 1048576) (hi0 : (i : Int) ≤ 1048576) (w : World) :
    Calls Try.prog 120 #[.agg #[.int .i64 13,.int .i64 a.l,.int .i64 a.o,.int .i64 a.m,.float .f64 a.g,.string a.x,vr,.slice pk q ck],.int .i64 (i : Int),.int .i64 c] w fun e w'=>e = .returned (.bool (dc (14 < c))) ∧ Kb 0 w w':=by
  obtain ⟨pr,p,cr,rfl⟩:=hv
  by_cases hs : 14 < c
  · have hsb : ¬ c ≤ 14:=by omega
    rw [dc_t (hs)]
    go_enter Try.func120,Try.ntmps120
    go_wp2_with go_in
    go_ret
    exact ⟨by first | rfl | (simp only [*];rfl) | simp [*],by repeat (first | exact Kb.refl _ _ | apply Kb.alloc)⟩
  · have hsb : c ≤ 14:=by omega
    rw [dc_f (fun g=>(hs) g)]
    go_enter Try.func120,Try.ntmps120
    go_wp2_with go_in
    go_ret
    exact ⟨by first | rfl | (simp only [*];rfl) | simp [*],by repeat (first | exact Kb.refl _ _ | apply Kb.alloc)⟩
theorem tks_14 (a : Nv) (vr : Value) (hv : ∃ pr p cr, vr = .slice pr p cr) (pk : Option Addr) (q ck i : Nat) (c : Int) (hq : (q : Int) ≤ 1048576) (hi0 : (i : Int) ≤ 1048576) (w : World) :
    Calls Try.prog 120 #[.agg #[.int .i64 14,.int .i64 a.l,.int .i64 a.o,.int .i64 a.m,.float .f64 a.g,.string a.x,vr,.slice pk q ck],.int .i64 (i : Int),.int .i64 c] w fun e w'=>e = .returned (.bool (dc (c = 34))) ∧ Kb 0 w w':=by
  obtain ⟨pr,p,cr,rfl⟩:=hv
  by_cases hc : c = 34
  · have gc:=beq1 hc
    rw [dc_t (hc)]
    clear hc
    go_enter Try.func120,Try.ntmps120
    go_wp2_with go_in
    go_ret
    exact ⟨by first | rfl | (simp only [*];rfl) | simp [*],by repeat (first | exact Kb.refl _ _ | apply Kb.alloc)⟩
  · have gc:=bne hc
    rw [dc_f (fun g=>(hc) g)]
    clear hc
    go_enter Try.func120,Try.ntmps120
    go_wp2_with go_in
    go_ret
    exact ⟨by first | rfl | (simp only [*];rfl) | simp [*],by repeat (first | exact Kb.refl _ _ | apply Kb.alloc)⟩
theorem tkx_20 (a : Nv) (vr : Value) (hv : ∃ pr p cr, vr = .slice pr p cr) (pk : Option Addr) (q ck i : Nat) (c : Int) (hq : (q : Int) ≤ 1048576) (hi0 : (i : Int) ≤ 1048576) (w : World) :
    Calls Try.prog 125 #[.agg #[.int .i64 20,.int .i64 a.l,.int .i64 a.o,.int .i64 a.m,.float .f64 a.g,.string a.x,vr,.slice pk q ck],.int .i64 (i : Int),.int .i64 c] w fun e w'=>e = .returned (.bool (dc (14 < c))) ∧ Kb 0 w w':=by
  obtain ⟨pr,p,cr,rfl⟩:=hv
  by_cases hs : 14 < c
  · have hsb : ¬ c ≤ 14:=by omega
    rw [dc_t (hs)]
    go_enter Try.func125,Try.ntmps125
    go_wp2_with go_in
    go_ret
    exact ⟨by first | rfl | (simp only [*];rfl) | simp [*],by repeat (first | exact Kb.refl _ _ | apply Kb.alloc)⟩
  · have hsb : c ≤ 14:=by omega
    rw [dc_f (fun g=>(hs) g)]
    go_enter Try.func125,Try.ntmps125
    go_wp2_with go_in
    go_ret
    exact ⟨by first | rfl | (simp only [*];rfl) | simp [*],by repeat (first | exact Kb.refl _ _ | apply Kb.alloc)⟩
theorem tkx_21 (a : Nv) (vr : Value) (hv : ∃ pr p cr, vr = .slice pr p cr) (pk : Option Addr) (q ck i : Nat) (c : Int) (hq : (q : Int) ≤ 1048576) (hi0 : (i : Int) ≤ 1048576) (w : World) :
    Calls Try.prog 125 #[.agg #[.int .i64 21,.int .i64 a.l,.int .i64 a.o,.int .i64 a.m,.float .f64 a.g,.string a.x,vr,.slice pk q ck],.int .i64 (i : Int),.int .i64 c] w fun e w'=>e = .returned (.bool (dc (14 < c))) ∧ Kb 0 w w':=by
  obtain ⟨pr,p,cr,rfl⟩:=hv
  by_cases hs : 14 < c
  · have hsb : ¬ c ≤ 14:=by omega
    rw [dc_t (hs)]
    go_enter Try.func125,Try.ntmps125
    go_wp2_with go_in
    go_ret
    exact ⟨by first | rfl | (simp only [*];rfl) | simp [*],by repeat (first | exact Kb.refl _ _ | apply Kb.alloc)⟩
  · have hsb : c ≤ 14:=by omega
    rw [dc_f (fun g=>(hs) g)]
    go_enter Try.func125,Try.ntmps125
    go_wp2_with go_in
    go_ret
    exact ⟨by first | rfl | (simp only [*];rfl) | simp [*],by repeat (first | exact Kb.refl _ _ | apply Kb.alloc)⟩
theorem tkx_22 (a : Nv) (vr : Value) (hv : ∃ pr p cr, vr = .slice pr p cr) (pk : Option Addr) (q ck i : Nat) (c : Int) (hq : (q : Int) ≤ 1048576) (hi0 : (i : Int) ≤ 1048576) (w : World) :
    Calls Try.prog 125 #[.agg #[.int .i64 22,.int .i64 a.l,.int .i64 a.o,.int .i64 a.m,.float .f64 a.g,.string a.x,vr,.slice pk q ck],.int .i64 (i : Int),.int .i64 c] w fun e w'=>e = .returned (.bool (dc (14 < c))) ∧ Kb 0 w w':=by
  obtain ⟨pr,p,cr,rfl⟩:=hv
  by_cases hs : 14 < c
  · have hsb : ¬ c ≤ 14:=by omega
    rw [dc_t (hs)]
    go_enter Try.func125,Try.ntmps125
    go_wp2_with go_in
    go_ret
    exact ⟨by first | rfl | (simp only [*];rfl) | simp [*],by repeat (first | exact Kb.refl _ _ | apply Kb.alloc)⟩
  · have hsb : c ≤ 14:=by omega
    rw [dc_f (fun g=>(hs) g)]
    go_enter Try.func125,Try.ntmps125
    go_wp2_with go_in
    go_ret
    exact ⟨by first | rfl | (simp only [*];rfl) | simp [*],by repeat (first | exact Kb.refl _ _ | apply Kb.alloc)⟩
theorem tkx_23 (a : Nv) (vr : Value) (hv : ∃ pr p cr, vr = .slice pr p cr) (pk : Option Addr) (q ck i : Nat) (c : Int) (hq : (q : Int) ≤ 1048576) (hi0 : (i : Int) ≤ 1048576) (w : World) :
    Calls Try.prog 125 #[.agg #[.int .i64 23,.int .i64 a.l,.int .i64 a.o,.int .i64 a.m,.float .f64 a.g,.string a.x,vr,.slice pk q ck],.int .i64 (i : Int),.int .i64 c] w fun e w'=>e = .returned (.bool (dc (14 < c))) ∧ Kb 0 w w':=by
  obtain ⟨pr,p,cr,rfl⟩:=hv
  by_cases hs : 14 < c
  · have hsb : ¬ c ≤ 14:=by omega
    rw [dc_t (hs)]
    go_enter Try.func125,Try.ntmps125
    go_wp2_with go_in
    go_ret
    exact ⟨by first | rfl | (simp only [*];rfl) | simp [*],by repeat (first | exact Kb.refl _ _ | apply Kb.alloc)⟩
  · have hsb : c ≤ 14:=by omega
    rw [dc_f (fun g=>(hs) g)]
    go_enter Try.func125,Try.ntmps125
    go_wp2_with go_in
    go_ret
    exact ⟨by first | rfl | (simp only [*];rfl) | simp [*],by repeat (first | exact Kb.refl _ _ | apply Kb.alloc)⟩
theorem tkx_24 (a : Nv) (vr : Value) (hv : ∃ pr p cr, vr = .slice pr p cr) (pk : Option Addr) (q ck i : Nat) (c : Int) (hq : (q : Int) ≤ 1048576) (hi0 : (i : Int) ≤ 1048576) (w : World) :
    Calls Try.prog 125 #[.agg #[.int .i64 24,.int .i64 a.l,.int .i64 a.o,.int .i64 a.m,.float .f64 a.g,.string a.x,vr,.slice pk q ck],.int .i64 (i : Int),.int .i64 c] w fun e w'=>e = .returned (.bool (dc (14 < c))) ∧ Kb 0 w w':=by
  obtain ⟨pr,p,cr,rfl⟩:=hv
  by_cases hs : 14 < c
  · have hsb : ¬ c ≤ 14:=by omega
    rw [dc_t (hs)]
    go_enter Try.func125,Try.ntmps125
    go_wp2_with go_in
    go_ret
    exact ⟨by first | rfl | (simp only [*];rfl) | simp [*],by repeat (first | exact Kb.refl _ _ | apply Kb.alloc)⟩
  · have hsb : c ≤ 14:=by omega
    rw [dc_f (fun g=>(hs) g)]
    go_enter Try.func125,Try.ntmps125
    go_wp2_with go_in
    go_ret
    exact ⟨by first | rfl | (simp only [*];rfl) | simp [*],by repeat (first | exact Kb.refl _ _ | apply Kb.alloc)⟩
theorem tkx_25 (a : Nv) (vr : Value) (hv : ∃ pr p cr, vr = .slice pr p cr) (pk : Option Addr) (q ck i : Nat) (c : Int) (hq : (q : Int) ≤ 1048576) (hi0 : (i : Int) ≤ 1048576) (w : World) :
    Calls Try.prog 125 #[.agg #[.int .i64 25,.int .i64 a.l,.int .i64 a.o,.int .i64 a.m,.float .f64 a.g,.string a.x,vr,.slice pk q ck],.int .i64 (i : Int),.int .i64 c] w fun e w'=>e = .returned (.bool (dc (14 < c))) ∧ Kb 0 w w':=by
  obtain ⟨pr,p,cr,rfl⟩:=hv
  by_cases hs : 14 < c
  · have hsb : ¬ c ≤ 14:=by omega
    rw [dc_t (hs)]
    go_enter Try.func125,Try.ntmps125
    go_wp2_with go_in
    go_ret
    exact ⟨by first | rfl | (simp only [*];rfl) | simp [*],by repeat (first | exact Kb.refl _ _ | apply Kb.alloc)⟩
  · have hsb : c ≤ 14:=by omega
    rw [dc_f (fun g=>(hs) g)]
    go_enter Try.func125,Try.ntmps125
    go_wp2_with go_in
    go_ret
    exact ⟨by first | rfl | (simp only [*];rfl) | simp [*],by repeat (first | exact Kb.refl _ _ | apply Kb.alloc)⟩
theorem tkx_26 (a : Nv) (vr : Value) (hv : ∃ pr p cr, vr = .slice pr p cr) (pk : Option Addr) (q ck i : Nat) (c : Int) (hq : (q : Int) ≤ 1048576) (hi0 : (i : Int) ≤ 1048576) (w : World) :
    Calls Try.prog 125 #[.agg #[.int .i64 26,.int .i64 a.l,.int .i64 a.o,.int .i64 a.m,.float .f64 a.g,.string a.x,vr,.slice pk q ck],.int .i64 (i : Int),.int .i64 c] w fun e w'=>e = .returned (.bool (dc (14 < c))) ∧ Kb 0 w w':=by
  obtain ⟨pr,p,cr,rfl⟩:=hv
  by_cases hs : 14 < c
  · have hsb : ¬ c ≤ 14:=by omega
    rw [dc_t (hs)]
    go_enter Try.func125,Try.ntmps125
    go_wp2_with go_in
    go_ret
    exact ⟨by first | rfl | (simp only [*];rfl) | simp [*],by repeat (first | exact Kb.refl _ _ | apply Kb.alloc)⟩
  · have hsb : c ≤ 14:=by omega
    rw [dc_f (fun g=>(hs) g)]
    go_enter Try.func125,Try.ntmps125
    go_wp2_with go_in
    go_ret
    exact ⟨by first | rfl | (simp only [*];rfl) | simp [*],by repeat (first | exact Kb.refl _ _ | apply Kb.alloc)⟩
theorem tkx_27 (a : Nv) (vr : Value) (hv : ∃ pr p cr, vr = .slice pr p cr) (pk : Option Addr) (q ck i : Nat) (c : Int) (hq : (q : Int) ≤ 1048576) (hi0 : (i : Int) ≤ 1048576) (w : World) :
    Calls Try.prog 125 #[.agg #[.int .i64 27,.int .i64 a.l,.int .i64 a.o,.int .i64 a.m,.float .f64 a.g,.string a.x,vr,.slice pk q ck],.int .i64 (i : Int),.int .i64 c] w fun e w'=>e = .returned (.bool (dc (14 < c))) ∧ Kb 0 w w':=by
  obtain ⟨pr,p,cr,rfl⟩:=hv
  by_cases hs : 14 < c
  · have hsb : ¬ c ≤ 14:=by omega
    rw [dc_t (hs)]
    go_enter Try.func125,Try.ntmps125
    go_wp2_with go_in
    go_ret
    exact ⟨by first | rfl | (simp only [*];rfl) | simp [*],by repeat (first | exact Kb.refl _ _ | apply Kb.alloc)⟩
  · have hsb : c ≤ 14:=by omega
    rw [dc_f (fun g=>(hs) g)]
    go_enter Try.func125,Try.ntmps125
    go_wp2_with go_in
    go_ret
    exact ⟨by first | rfl | (simp only [*];rfl) | simp [*],by repeat (first | exact Kb.refl _ _ | apply Kb.alloc)⟩
theorem tkx_28 (a : Nv) (vr : Value) (hv : ∃ pr p cr, vr = .slice pr p cr) (pk : Option Addr) (q ck i : Nat) (c : Int) (hq : (q : Int) ≤ 1048576) (hi0 : (i : Int) ≤ 1048576) (w : World) :
    Calls Try.prog 125 #[.agg #[.int .i64 28,.int .i64 a.l,.int .i64 a.o,.int .i64 a.m,.float .f64 a.g,.string a.x,vr,.slice pk q ck],.int .i64 (i : Int),.int .i64 c] w fun e w'=>e = .returned (.bool (dc (14 < c))) ∧ Kb 0 w w':=by
  obtain ⟨pr,p,cr,rfl⟩:=hv
  by_cases hs : 14 < c
  · have hsb : ¬ c ≤ 14:=by omega
    rw [dc_t (hs)]
    go_enter Try.func125,Try.ntmps125
    go_wp2_with go_in
    go_ret
    exact ⟨by first | rfl | (simp only [*];rfl) | simp [*],by repeat (first | exact Kb.refl _ _ | apply Kb.alloc)⟩
  · have hsb : c ≤ 14:=by omega
    rw [dc_f (fun g=>(hs) g)]
    go_enter Try.func125,Try.ntmps125
    go_wp2_with go_in
    go_ret
    exact ⟨by first | rfl | (simp only [*];rfl) | simp [*],by repeat (first | exact Kb.refl _ _ | apply Kb.alloc)⟩
theorem tkx_29 (a : Nv) (vr : Value) (hv : ∃ pr p cr, vr = .slice pr p cr) (pk : Option Addr) (q ck i : Nat) (c : Int) (hq : (q : Int) ≤ 1048576) (hi0 : (i : Int) ≤ 1048576) (w : World) :
    Calls Try.prog 125 #[.agg #[.int .i64 29,.int .i64 a.l,.int .i64 a.o,.int .i64 a.m,.float .f64 a.g,.string a.x,vr,.slice pk q ck],.int .i64 (i : Int),.int .i64 c] w fun e w'=>e = .returned (.bool (dc (14 < c))) ∧ Kb 0 w w':=by
  obtain ⟨pr,p,cr,rfl⟩:=hv
  by_cases hs : 14 < c
  · have hsb : ¬ c ≤ 14:=by omega
    rw [dc_t (hs)]
    go_enter Try.func125,Try.ntmps125
    go_wp2_with go_in
    go_ret
    exact ⟨by first | rfl | (simp only [*];rfl) | simp [*],by repeat (first | exact Kb.refl _ _ | apply Kb.alloc)⟩
  · have hsb : c ≤ 14:=by omega
    rw [dc_f (fun g=>(hs) g)]
    go_enter Try.func125,Try.ntmps125
    go_wp2_with go_in
    go_ret
    exact ⟨by first | rfl | (simp only [*];rfl) | simp [*],by repeat (first | exact Kb.refl _ _ | apply Kb.alloc)⟩
theorem tkx_30 (a : Nv) (vr : Value) (hv : ∃ pr p cr, vr = .slice pr p cr) (pk : Option Addr) (q ck i : Nat) (c : Int) (hq : (q : Int) ≤ 1048576) (hi0 : (i : Int) ≤ 1048576) (w : World) :
    Calls Try.prog 125 #[.agg #[.int .i64 30,.int .i64 a.l,.int .i64 a.o,.int .i64 a.m,.float .f64 a.g,.string a.x,vr,.slice pk q ck],.int .i64 (i : Int),.int .i64 c] w fun e w'=>e = .returned (.bool (dc (14 < c))) ∧ Kb 0 w w':=by
  obtain ⟨pr,p,cr,rfl⟩:=hv
  by_cases hs : 14 < c
  · have hsb : ¬ c ≤ 14:=by omega
    rw [dc_t (hs)]
    go_enter Try.func125,Try.ntmps125
    go_wp2_with go_in
    go_ret
    exact ⟨by first | rfl | (simp only [*];rfl) | simp [*],by repeat (first | exact Kb.refl _ _ | apply Kb.alloc)⟩
  · have hsb : c ≤ 14:=by omega
    rw [dc_f (fun g=>(hs) g)]
    go_enter Try.func125,Try.ntmps125
    go_wp2_with go_in
    go_ret
    exact ⟨by first | rfl | (simp only [*];rfl) | simp [*],by repeat (first | exact Kb.refl _ _ | apply Kb.alloc)⟩
theorem tkx_31 (a : Nv) (vr : Value) (hv : ∃ pr p cr, vr = .slice pr p cr) (pk : Option Addr) (q ck i : Nat) (c : Int) (hq : (q : Int) ≤ 1048576) (hi0 : (i : Int) ≤ 1048576) (w : World) :
    Calls Try.prog 125 #[.agg #[.int .i64 31,.int .i64 a.l,.int .i64 a.o,.int .i64 a.m,.float .f64 a.g,.string a.x,vr,.slice pk q ck],.int .i64 (i : Int),.int .i64 c] w fun e w'=>e = .returned (.bool (dc (14 < c))) ∧ Kb 0 w w':=by
  obtain ⟨pr,p,cr,rfl⟩:=hv
  by_cases hs : 14 < c
  · have hsb : ¬ c ≤ 14:=by omega
    rw [dc_t (hs)]
    go_enter Try.func125,Try.ntmps125
    go_wp2_with go_in
    go_ret
    exact ⟨by first | rfl | (simp only [*];rfl) | simp [*],by repeat (first | exact Kb.refl _ _ | apply Kb.alloc)⟩
  · have hsb : c ≤ 14:=by omega
    rw [dc_f (fun g=>(hs) g)]
    go_enter Try.func125,Try.ntmps125
    go_wp2_with go_in
    go_ret
    exact ⟨by first | rfl | (simp only [*];rfl) | simp [*],by repeat (first | exact Kb.refl _ _ | apply Kb.alloc)⟩
theorem tkx_32 (a : Nv) (vr : Value) (hv : ∃ pr p cr, vr = .slice pr p cr) (pk : Option Addr) (q ck i : Nat) (c : Int) (hq : (q : Int) ≤ 1048576) (hi0 : (i : Int) ≤ 1048576) (w : World) :
    Calls Try.prog 125 #[.agg #[.int .i64 32,.int .i64 a.l,.int .i64 a.o,.int .i64 a.m,.float .f64 a.g,.string a.x,vr,.slice pk q ck],.int .i64 (i : Int),.int .i64 c] w fun e w'=>e = .returned (.bool (dc (14 < c))) ∧ Kb 0 w w':=by
  obtain ⟨pr,p,cr,rfl⟩:=hv
  by_cases hs : 14 < c
  · have hsb : ¬ c ≤ 14:=by omega
    rw [dc_t (hs)]
    go_enter Try.func125,Try.ntmps125
    go_wp2_with go_in
    go_ret
    exact ⟨by first | rfl | (simp only [*];rfl) | simp [*],by repeat (first | exact Kb.refl _ _ | apply Kb.alloc)⟩
  · have hsb : c ≤ 14:=by omega
    rw [dc_f (fun g=>(hs) g)]
    go_enter Try.func125,Try.ntmps125
    go_wp2_with go_in
    go_ret
    exact ⟨by first | rfl | (simp only [*];rfl) | simp [*],by repeat (first | exact Kb.refl _ _ | apply Kb.alloc)⟩
theorem tkx_33 (a : Nv) (vr : Value) (hv : ∃ pr p cr, vr = .slice pr p cr) (pk : Option Addr) (q ck i : Nat) (c : Int) (hq : (q : Int) ≤ 1048576) (hi0 : (i : Int) ≤ 1048576) (w : World) :
    Calls Try.prog 125 #[.agg #[.int .i64 33,.int .i64 a.l,.int .i64 a.o,.int .i64 a.m,.float .f64 a.g,.string a.x,vr,.slice pk q ck],.int .i64 (i : Int),.int .i64 c] w fun e w'=>e = .returned (.bool (dc (14 < c))) ∧ Kb 0 w w':=by
  obtain ⟨pr,p,cr,rfl⟩:=hv
  by_cases hs : 14 < c
  · have hsb : ¬ c ≤ 14:=by omega
    rw [dc_t (hs)]
    go_enter Try.func125,Try.ntmps125
    go_wp2_with go_in
    go_ret
    exact ⟨by first | rfl | (simp only [*];rfl) | simp [*],by repeat (first | exact Kb.refl _ _ | apply Kb.alloc)⟩
  · have hsb : c ≤ 14:=by omega
    rw [dc_f (fun g=>(hs) g)]
    go_enter Try.func125,Try.ntmps125
    go_wp2_with go_in
    go_ret
    exact ⟨by first | rfl | (simp only [*];rfl) | simp [*],by repeat (first | exact Kb.refl _ _ | apply Kb.alloc)⟩
theorem tkx_34 (a : Nv) (vr : Value) (hv : ∃ pr p cr, vr = .slice pr p cr) (pk : Option Addr) (q ck i : Nat) (c : Int) (hq : (q : Int) ≤ 1048576) (hi0 : (i : Int) ≤ 1048576) (w : World) :
    Calls Try.prog 125 #[.agg #[.int .i64 34,.int .i64 a.l,.int .i64 a.o,.int .i64 a.m,.float .f64 a.g,.string a.x,vr,.slice pk q ck],.int .i64 (i : Int),.int .i64 c] w fun e w'=>e = .returned (.bool (dc (14 < c))) ∧ Kb 0 w w':=by
  obtain ⟨pr,p,cr,rfl⟩:=hv
  by_cases hs : 14 < c
  · have hsb : ¬ c ≤ 14:=by omega
    rw [dc_t (hs)]
    go_enter Try.func125,Try.ntmps125
    go_wp2_with go_in
    go_ret
    exact ⟨by first | rfl | (simp only [*];rfl) | simp [*],by repeat (first | exact Kb.refl _ _ | apply Kb.alloc)⟩
  · have hsb : c ≤ 14:=by omega
    rw [dc_f (fun g=>(hs) g)]
    go_enter Try.func125,Try.ntmps125
    go_wp2_with go_in
    go_ret
    exact ⟨by first | rfl | (simp only [*];rfl) | simp [*],by repeat (first | exact Kb.refl _ _ | apply Kb.alloc)⟩
theorem tkx_35 (a : Nv) (vr : Value) (hv : ∃ pr p cr, vr = .slice pr p cr) (pk : Option Addr) (q ck i : Nat) (c : Int) (hq : (q : Int) ≤ 1048576) (hi0 : (i : Int) ≤ 1048576) (w : World) :
    Calls Try.prog 125 #[.agg #[.int .i64 35,.int .i64 a.l,.int .i64 a.o,.int .i64 a.m,.float .f64 a.g,.string a.x,vr,.slice pk q ck],.int .i64 (i : Int),.int .i64 c] w fun e w'=>e = .returned (.bool (dc (14 < c))) ∧ Kb 0 w w':=by
  obtain ⟨pr,p,cr,rfl⟩:=hv
  by_cases hs : 14 < c
  · have hsb : ¬ c ≤ 14:=by omega
    rw [dc_t (hs)]
    go_enter Try.func125,Try.ntmps125
    go_wp2_with go_in
    go_ret
    exact ⟨by first | rfl | (simp only [*];rfl) | simp [*],by repeat (first | exact Kb.refl _ _ | apply Kb.alloc)⟩
  · have hsb : c ≤ 14:=by omega
    rw [dc_f (fun g=>(hs) g)]
    go_enter Try.func125,Try.ntmps125
    go_wp2_with go_in
    go_ret
    exact ⟨by first | rfl | (simp only [*];rfl) | simp [*],by repeat (first | exact Kb.refl _ _ | apply Kb.alloc)⟩
theorem tkx_36 (a : Nv) (vr : Value) (hv : ∃ pr p cr, vr = .slice pr p cr) (pk : Option Addr) (q ck i : Nat) (c : Int) (hq : (q : Int) ≤ 1048576) (hi0 : (i : Int) ≤ 1048576) (w : World) :
    Calls Try.prog 125 #[.agg #[.int .i64 36,.int .i64 a.l,.int .i64 a.o,.int .i64 a.m,.float .f64 a.g,.string a.x,vr,.slice pk q ck],.int .i64 (i : Int),.int .i64 c] w fun e w'=>e = .returned (.bool (dc (14 < c))) ∧ Kb 0 w w':=by
  obtain ⟨pr,p,cr,rfl⟩:=hv
  by_cases hs : 14 < c
  · have hsb : ¬ c ≤ 14:=by omega
    rw [dc_t (hs)]
    go_enter Try.func125,Try.ntmps125
    go_wp2_with go_in
    go_ret
    exact ⟨by first | rfl | (simp only [*];rfl) | simp [*],by repeat (first | exact Kb.refl _ _ | apply Kb.alloc)⟩
  · have hsb : c ≤ 14:=by omega
    rw [dc_f (fun g=>(hs) g)]
    go_enter Try.func125,Try.ntmps125
    go_wp2_with go_in
    go_ret
    exact ⟨by first | rfl | (simp only [*];rfl) | simp [*],by repeat (first | exact Kb.refl _ _ | apply Kb.alloc)⟩
theorem tkx_37 (a : Nv) (vr : Value) (hv : ∃ pr p cr, vr = .slice pr p cr) (pk : Option Addr) (q ck i : Nat) (c : Int) (hq : (q : Int) ≤ 1048576) (hi0 : (i : Int) ≤ 1048576) (w : World) :
    Calls Try.prog 125 #[.agg #[.int .i64 37,.int .i64 a.l,.int .i64 a.o,.int .i64 a.m,.float .f64 a.g,.string a.x,vr,.slice pk q ck],.int .i64 (i : Int),.int .i64 c] w fun e w'=>e = .returned (.bool (dc (14 < c))) ∧ Kb 0 w w':=by
  obtain ⟨pr,p,cr,rfl⟩:=hv
  by_cases hs : 14 < c
  · have hsb : ¬ c ≤ 14:=by omega
    rw [dc_t (hs)]
    go_enter Try.func125,Try.ntmps125
    go_wp2_with go_in
    go_ret
    exact ⟨by first | rfl | (simp only [*];rfl) | simp [*],by repeat (first | exact Kb.refl _ _ | apply Kb.alloc)⟩
  · have hsb : c ≤ 14:=by omega
    rw [dc_f (fun g=>(hs) g)]
    go_enter Try.func125,Try.ntmps125
    go_wp2_with go_in
    go_ret
    exact ⟨by first | rfl | (simp only [*];rfl) | simp [*],by repeat (first | exact Kb.refl _ _ | apply Kb.alloc)⟩
theorem tkx_38 (a : Nv) (vr : Value) (hv : ∃ pr p cr, vr = .slice pr p cr) (pk : Option Addr) (q ck i : Nat) (c : Int) (hq : (q : Int) ≤ 1048576) (hi0 : (i : Int) ≤ 1048576) (w : World) :
    Calls Try.prog 125 #[.agg #[.int .i64 38,.int .i64 a.l,.int .i64 a.o,.int .i64 a.m,.float .f64 a.g,.string a.x,vr,.slice pk q ck],.int .i64 (i : Int),.int .i64 c] w fun e w'=>e = .returned (.bool (dc (c = 34 ∨ c = 37))) ∧ Kb 0 w w':=by
  obtain ⟨pr,p,cr,rfl⟩:=hv
  by_cases h1 : c = 34
  · have g1:=beq1 h1
    rw [dc_t (Or.inl h1)]
    clear h1
    go_enter Try.func125,Try.ntmps125
    go_wp2_with go_in
    go_ret
    exact ⟨by first | rfl | (simp only [*];rfl) | simp [*],by repeat (first | exact Kb.refl _ _ | apply Kb.alloc)⟩
  · have g1:=bne h1
    by_cases h2 : c = 37
    · have g2:=beq1 h2
      rw [dc_t (Or.inr h2)]
      clear h1 h2
      go_enter Try.func125,Try.ntmps125
      go_wp2_with go_in
      go_ret
      exact ⟨by first | rfl | (simp only [*];rfl) | simp [*],by repeat (first | exact Kb.refl _ _ | apply Kb.alloc)⟩
    · have g2:=bne h2
      rw [dc_f (fun g=>(fun z=>z.elim h1 h2) g)]
      clear h1 h2
      go_enter Try.func125,Try.ntmps125
      go_wp2_with go_in
      go_ret
      exact ⟨by first | rfl | (simp only [*];rfl) | simp [*],by repeat (first | exact Kb.refl _ _ | apply Kb.alloc)⟩
end Go.Proofs.Ytipiahdcmjchjaa.Fo
