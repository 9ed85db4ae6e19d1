import Derived.Test.YtjggnnmnegcpjaaGreatDoorMTkb
namespace Go.Proofs.YtjggnnmnegcpjaaGreatDoor.Fo
open Go.ChangeShapes Go.WideShapes Go.ChangeAt Go.RowKit
set_option linter.unusedVariables false
/-- what may stand as kid i of a form of kind k -/
def sdk (k m : Int) (q i : Nat) : Int :=
  match k.toNat with
  | 1 => 0
  | 4 => 8
  | 6 => 6
  | 16 => 6
  | 14 => 1
  | 5 => if (i : Int) < m then 5 else 3
  | 7 => if i = 0 then 3 else if i = 1 then 1 else 2
  | 8 => if i + 1 = q then 1 else 3
  | 9 => if i + 1 = q then 1 else 3
  | 10 => if i + 1 = q then 1 else 3
  | 32 => if i = 0 then 4 else 3
  | 33 => if i = 0 then 4 else 3
  | 34 => if i = 0 then 4 else 3
  | 35 => 9
  | 36 => 1
  | 37 => 7
  | _ => 3
set_option maxRecDepth 100000 in
set_option maxHeartbeats 4000000 in
theorem im_kids (a : Fv) (vn : Value) (pk : Option Addr) (q ck i : Nat) (h : 1 ≤ a.k ∧ a.k ≤ 16) (hq : q ≤ 1048576) (hi : i < q) (h7 : a.k = 7 → q ≤ 3) (w : World) : Calls Tryz.prog 346 #[fmv a vn (.slice pk q ck), .int .i64 (i : Int)] w fun e w' => e = .returned (.int .i64 (sdk a.k a.m q i)) ∧ Below w.heap.size w w' := by
  obtain ⟨k, f, t, l, o, m, x⟩ := a
  have h' : k = 1 ∨ k = 2 ∨ k = 3 ∨ k = 4 ∨ k = 5 ∨ k = 6 ∨ k = 7 ∨ k = 8 ∨ k = 9 ∨ k = 10 ∨ k = 11 ∨ k = 12 ∨ k = 13 ∨ k = 14 ∨ k = 15 ∨ k = 16 := by
    have h1 : 1 ≤ k := h.1
    have h2 : k ≤ 16 := h.2
    omega
  have hqI : (q : Int) ≤ 1048576 := by omega
  have hiI : (i : Int) < (q : Int) := by omega
  clear h hq
  unfold fmv
  rcases h' with rfl | rfl | rfl | rfl | rfl | rfl | rfl | rfl | rfl | rfl | rfl | rfl | rfl | rfl | rfl | rfl
  · show Calls Tryz.prog 346 _ w fun e w' => e = .returned (.int .i64 (0)) ∧ Below w.heap.size w w'
    clear h7 hi
    go_enter Tryz.func346, Tryz.ntmps346
    go_wp2_with fail
    go_ret
    exact ⟨rfl, bel1 _ _⟩
  · show Calls Tryz.prog 346 _ w fun e w' => e = .returned (.int .i64 (3)) ∧ Below w.heap.size w w'
    clear h7 hi
    go_enter Tryz.func346, Tryz.ntmps346
    go_wp2_with fail
    go_ret
    exact ⟨rfl, bel1 _ _⟩
  · show Calls Tryz.prog 346 _ w fun e w' => e = .returned (.int .i64 (3)) ∧ Below w.heap.size w w'
    clear h7 hi
    go_enter Tryz.func346, Tryz.ntmps346
    go_wp2_with fail
    go_ret
    exact ⟨rfl, bel1 _ _⟩
  · show Calls Tryz.prog 346 _ w fun e w' => e = .returned (.int .i64 (8)) ∧ Below w.heap.size w w'
    clear h7 hi
    go_enter Tryz.func346, Tryz.ntmps346
    go_wp2_with fail
    go_ret
    exact ⟨rfl, bel1 _ _⟩
  · show Calls Tryz.prog 346 _ w fun e w' => e = .returned (.int .i64 (if (i : Int) < m then 5 else 3)) ∧ Below w.heap.size w w'
    by_cases g : (i : Int) < m
    · rw [if_pos g]
      clear h7 hi
      go_enter Tryz.func346, Tryz.ntmps346
      go_wp2_with fail
      go_ret
      exact ⟨rfl, bel1 _ _⟩
    · rw [if_neg g]
      clear h7 hi
      go_enter Tryz.func346, Tryz.ntmps346
      go_wp2_with fail
      go_ret
      exact ⟨rfl, bel1 _ _⟩
  · show Calls Tryz.prog 346 _ w fun e w' => e = .returned (.int .i64 (6)) ∧ Below w.heap.size w w'
    clear h7 hi
    go_enter Tryz.func346, Tryz.ntmps346
    go_wp2_with fail
    go_ret
    exact ⟨rfl, bel1 _ _⟩
  · show Calls Tryz.prog 346 _ w fun e w' => e = .returned (.int .i64 (if i = 0 then 3 else if i = 1 then 1 else 2)) ∧ Below w.heap.size w w'
    have hi3 : i = 0 ∨ i = 1 ∨ i = 2 := by have := h7 rfl; omega
    rcases hi3 with rfl | rfl | rfl
    · show Calls Tryz.prog 346 #[_, .int .i64 0] w fun e w' => e = .returned (.int .i64 3) ∧ Below w.heap.size w w'
      clear h7 hi hiI
      have hix : ∀ W, Sem.run Tryz.prog (Instr.index 334 (.agg #[.int .i64 3, .int .i64 1, .int .i64 2]) (.int .i64 0)) W = .ok (.int .i64 3) W := fun W => by kernel_rfl
      go_enter Tryz.func346, Tryz.ntmps346
      go_wp2_with fail
      go_ret
      exact ⟨rfl, bel1 _ _⟩
    · show Calls Tryz.prog 346 #[_, .int .i64 1] w fun e w' => e = .returned (.int .i64 1) ∧ Below w.heap.size w w'
      clear h7 hi hiI
      have hix : ∀ W, Sem.run Tryz.prog (Instr.index 334 (.agg #[.int .i64 3, .int .i64 1, .int .i64 2]) (.int .i64 1)) W = .ok (.int .i64 1) W := fun W => by kernel_rfl
      go_enter Tryz.func346, Tryz.ntmps346
      go_wp2_with fail
      go_ret
      exact ⟨rfl, bel1 _ _⟩
    · show Calls Tryz.prog 346 #[_, .int .i64 2] w fun e w' => e = .returned (.int .i64 2) ∧ Below w.heap.size w w'
      clear h7 hi hiI
      have hix : ∀ W, Sem.run Tryz.prog (Instr.index 334 (.agg #[.int .i64 3, .int .i64 1, .int .i64 2]) (.int .i64 2)) W = .ok (.int .i64 2) W := fun W => by kernel_rfl
      go_enter Tryz.func346, Tryz.ntmps346
      go_wp2_with fail
      go_ret
      exact ⟨rfl, bel1 _ _⟩
  · show Calls Tryz.prog 346 _ w fun e w' => e = .returned (.int .i64 (if i + 1 = q then 1 else 3)) ∧ Below w.heap.size w w'
    by_cases g : i + 1 = q
    · rw [if_pos g]
      have g1 : ((i : Int) == (q : Int) - 1) = true := beq1 (by omega)
      clear g
      clear h7 hi
      go_enter Tryz.func346, Tryz.ntmps346
      go_wp2_with fail
      go_ret
      exact ⟨rfl, bel1 _ _⟩
    · rw [if_neg g]
      have g1 : ((i : Int) == (q : Int) - 1) = false := bne (by omega)
      clear g
      clear h7 hi
      go_enter Tryz.func346, Tryz.ntmps346
      go_wp2_with fail
      go_ret
      exact ⟨rfl, bel1 _ _⟩
  · show Calls Tryz.prog 346 _ w fun e w' => e = .returned (.int .i64 (if i + 1 = q then 1 else 3)) ∧ Below w.heap.size w w'
    by_cases g : i + 1 = q
    · rw [if_pos g]
      have g1 : ((i : Int) == (q : Int) - 1) = true := beq1 (by omega)
      clear g
      clear h7 hi
      go_enter Tryz.func346, Tryz.ntmps346
      go_wp2_with fail
      go_ret
      exact ⟨rfl, bel1 _ _⟩
    · rw [if_neg g]
      have g1 : ((i : Int) == (q : Int) - 1) = false := bne (by omega)
      clear g
      clear h7 hi
      go_enter Tryz.func346, Tryz.ntmps346
      go_wp2_with fail
      go_ret
      exact ⟨rfl, bel1 _ _⟩
  · show Calls Tryz.prog 346 _ w fun e w' => e = .returned (.int .i64 (if i + 1 = q then 1 else 3)) ∧ Below w.heap.size w w'
    by_cases g : i + 1 = q
    · rw [if_pos g]
      have g1 : ((i : Int) == (q : Int) - 1) = true := beq1 (by omega)
      clear g
      clear h7 hi
      go_enter Tryz.func346, Tryz.ntmps346
      go_wp2_with fail
      go_ret
      exact ⟨rfl, bel1 _ _⟩
    · rw [if_neg g]
      have g1 : ((i : Int) == (q : Int) - 1) = false := bne (by omega)
      clear g
      clear h7 hi
      go_enter Tryz.func346, Tryz.ntmps346
      go_wp2_with fail
      go_ret
      exact ⟨rfl, bel1 _ _⟩
  · show Calls Tryz.prog 346 _ w fun e w' => e = .returned (.int .i64 (3)) ∧ Below w.heap.size w w'
    clear h7 hi
    go_enter Tryz.func346, Tryz.ntmps346
    go_wp2_with fail
    go_ret
    exact ⟨rfl, bel1 _ _⟩
  · show Calls Tryz.prog 346 _ w fun e w' => e = .returned (.int .i64 (3)) ∧ Below w.heap.size w w'
    clear h7 hi
    go_enter Tryz.func346, Tryz.ntmps346
    go_wp2_with fail
    go_ret
    exact ⟨rfl, bel1 _ _⟩
  · show Calls Tryz.prog 346 _ w fun e w' => e = .returned (.int .i64 (3)) ∧ Below w.heap.size w w'
    clear h7 hi
    go_enter Tryz.func346, Tryz.ntmps346
    go_wp2_with fail
    go_ret
    exact ⟨rfl, bel1 _ _⟩
  · show Calls Tryz.prog 346 _ w fun e w' => e = .returned (.int .i64 (1)) ∧ Below w.heap.size w w'
    clear h7 hi
    go_enter Tryz.func346, Tryz.ntmps346
    go_wp2_with fail
    go_ret
    exact ⟨rfl, bel1 _ _⟩
  · show Calls Tryz.prog 346 _ w fun e w' => e = .returned (.int .i64 (3)) ∧ Below w.heap.size w w'
    clear h7 hi
    go_enter Tryz.func346, Tryz.ntmps346
    go_wp2_with fail
    go_ret
    exact ⟨rfl, bel1 _ _⟩
  · show Calls Tryz.prog 346 _ w fun e w' => e = .returned (.int .i64 (6)) ∧ Below w.heap.size w w'
    clear h7 hi
    go_enter Tryz.func346, Tryz.ntmps346
    go_wp2_with fail
    go_ret
    exact ⟨rfl, bel1 _ _⟩
set_option maxRecDepth 100000 in
set_option maxHeartbeats 4000000 in
theorem im_kide (a : Fv) (vn : Value) (pk : Option Addr) (q ck i : Nat) (h : 20 ≤ a.k ∧ a.k ≤ 37) (hq : q ≤ 1048576) (hi : i < q) (h7 : a.k = 7 → q ≤ 3) (w : World) : Calls Tryz.prog 349 #[fmv a vn (.slice pk q ck), .int .i64 (i : Int)] w fun e w' => e = .returned (.int .i64 (sdk a.k a.m q i)) ∧ Below w.heap.size w w' := by
  obtain ⟨k, f, t, l, o, m, x⟩ := a
  have h' : k = 20 ∨ k = 21 ∨ k = 22 ∨ k = 23 ∨ k = 24 ∨ k = 25 ∨ k = 26 ∨ k = 27 ∨ k = 28 ∨ k = 29 ∨ k = 30 ∨ k = 31 ∨ k = 32 ∨ k = 33 ∨ k = 34 ∨ k = 35 ∨ k = 36 ∨ k = 37 := by
    have h1 : 20 ≤ k := h.1
    have h2 : k ≤ 37 := h.2
    omega
  have hqI : (q : Int) ≤ 1048576 := by omega
  have hiI : (i : Int) < (q : Int) := by omega
  clear h hq
  unfold fmv
  rcases h' with rfl | rfl | rfl | rfl | rfl | rfl | rfl | rfl | rfl | rfl | rfl | rfl | rfl | rfl | rfl | rfl | rfl | rfl
  · show Calls Tryz.prog 349 _ w fun e w' => e = .returned (.int .i64 (3)) ∧ Below w.heap.size w w'
    clear h7 hi
    go_enter Tryz.func349, Tryz.ntmps349
    go_wp2_with fail
    go_ret
    exact ⟨rfl, bel1 _ _⟩
  · show Calls Tryz.prog 349 _ w fun e w' => e = .returned (.int .i64 (3)) ∧ Below w.heap.size w w'
    clear h7 hi
    go_enter Tryz.func349, Tryz.ntmps349
    go_wp2_with fail
    go_ret
    exact ⟨rfl, bel1 _ _⟩
  · show Calls Tryz.prog 349 _ w fun e w' => e = .returned (.int .i64 (3)) ∧ Below w.heap.size w w'
    clear h7 hi
    go_enter Tryz.func349, Tryz.ntmps349
    go_wp2_with fail
    go_ret
    exact ⟨rfl, bel1 _ _⟩
  · show Calls Tryz.prog 349 _ w fun e w' => e = .returned (.int .i64 (3)) ∧ Below w.heap.size w w'
    clear h7 hi
    go_enter Tryz.func349, Tryz.ntmps349
    go_wp2_with fail
    go_ret
    exact ⟨rfl, bel1 _ _⟩
  · show Calls Tryz.prog 349 _ w fun e w' => e = .returned (.int .i64 (3)) ∧ Below w.heap.size w w'
    clear h7 hi
    go_enter Tryz.func349, Tryz.ntmps349
    go_wp2_with fail
    go_ret
    exact ⟨rfl, bel1 _ _⟩
  · show Calls Tryz.prog 349 _ w fun e w' => e = .returned (.int .i64 (3)) ∧ Below w.heap.size w w'
    clear h7 hi
    go_enter Tryz.func349, Tryz.ntmps349
    go_wp2_with fail
    go_ret
    exact ⟨rfl, bel1 _ _⟩
  · show Calls Tryz.prog 349 _ w fun e w' => e = .returned (.int .i64 (3)) ∧ Below w.heap.size w w'
    clear h7 hi
    go_enter Tryz.func349, Tryz.ntmps349
    go_wp2_with fail
    go_ret
    exact ⟨rfl, bel1 _ _⟩
  · show Calls Tryz.prog 349 _ w fun e w' => e = .returned (.int .i64 (3)) ∧ Below w.heap.size w w'
    clear h7 hi
    go_enter Tryz.func349, Tryz.ntmps349
    go_wp2_with fail
    go_ret
    exact ⟨rfl, bel1 _ _⟩
  · show Calls Tryz.prog 349 _ w fun e w' => e = .returned (.int .i64 (3)) ∧ Below w.heap.size w w'
    clear h7 hi
    go_enter Tryz.func349, Tryz.ntmps349
    go_wp2_with fail
    go_ret
    exact ⟨rfl, bel1 _ _⟩
  · show Calls Tryz.prog 349 _ w fun e w' => e = .returned (.int .i64 (3)) ∧ Below w.heap.size w w'
    clear h7 hi
    go_enter Tryz.func349, Tryz.ntmps349
    go_wp2_with fail
    go_ret
    exact ⟨rfl, bel1 _ _⟩
  · show Calls Tryz.prog 349 _ w fun e w' => e = .returned (.int .i64 (3)) ∧ Below w.heap.size w w'
    clear h7 hi
    go_enter Tryz.func349, Tryz.ntmps349
    go_wp2_with fail
    go_ret
    exact ⟨rfl, bel1 _ _⟩
  · show Calls Tryz.prog 349 _ w fun e w' => e = .returned (.int .i64 (3)) ∧ Below w.heap.size w w'
    clear h7 hi
    go_enter Tryz.func349, Tryz.ntmps349
    go_wp2_with fail
    go_ret
    exact ⟨rfl, bel1 _ _⟩
  · show Calls Tryz.prog 349 _ w fun e w' => e = .returned (.int .i64 (if i = 0 then 4 else 3)) ∧ Below w.heap.size w w'
    by_cases g : i = 0
    · rw [if_pos g]
      have g1 : ((i : Int) == 0) = true := beq1 (by omega)
      clear g
      clear h7 hi
      go_enter Tryz.func349, Tryz.ntmps349
      go_wp2_with fail
      go_ret
      exact ⟨rfl, bel1 _ _⟩
    · rw [if_neg g]
      have g1 : ((i : Int) == 0) = false := bne (by omega)
      clear g
      clear h7 hi
      go_enter Tryz.func349, Tryz.ntmps349
      go_wp2_with fail
      go_ret
      exact ⟨rfl, bel1 _ _⟩
  · show Calls Tryz.prog 349 _ w fun e w' => e = .returned (.int .i64 (if i = 0 then 4 else 3)) ∧ Below w.heap.size w w'
    by_cases g : i = 0
    · rw [if_pos g]
      have g1 : ((i : Int) == 0) = true := beq1 (by omega)
      clear g
      clear h7 hi
      go_enter Tryz.func349, Tryz.ntmps349
      go_wp2_with fail
      go_ret
      exact ⟨rfl, bel1 _ _⟩
    · rw [if_neg g]
      have g1 : ((i : Int) == 0) = false := bne (by omega)
      clear g
      clear h7 hi
      go_enter Tryz.func349, Tryz.ntmps349
      go_wp2_with fail
      go_ret
      exact ⟨rfl, bel1 _ _⟩
  · show Calls Tryz.prog 349 _ w fun e w' => e = .returned (.int .i64 (if i = 0 then 4 else 3)) ∧ Below w.heap.size w w'
    by_cases g : i = 0
    · rw [if_pos g]
      have g1 : ((i : Int) == 0) = true := beq1 (by omega)
      clear g
      clear h7 hi
      go_enter Tryz.func349, Tryz.ntmps349
      go_wp2_with fail
      go_ret
      exact ⟨rfl, bel1 _ _⟩
    · rw [if_neg g]
      have g1 : ((i : Int) == 0) = false := bne (by omega)
      clear g
      clear h7 hi
      go_enter Tryz.func349, Tryz.ntmps349
      go_wp2_with fail
      go_ret
      exact ⟨rfl, bel1 _ _⟩
  · show Calls Tryz.prog 349 _ w fun e w' => e = .returned (.int .i64 (9)) ∧ Below w.heap.size w w'
    clear h7 hi
    go_enter Tryz.func349, Tryz.ntmps349
    go_wp2_with fail
    go_ret
    exact ⟨rfl, bel1 _ _⟩
  · show Calls Tryz.prog 349 _ w fun e w' => e = .returned (.int .i64 (1)) ∧ Below w.heap.size w w'
    clear h7 hi
    go_enter Tryz.func349, Tryz.ntmps349
    go_wp2_with fail
    go_ret
    exact ⟨rfl, bel1 _ _⟩
  · show Calls Tryz.prog 349 _ w fun e w' => e = .returned (.int .i64 (7)) ∧ Below w.heap.size w w'
    clear h7 hi
    go_enter Tryz.func349, Tryz.ntmps349
    go_wp2_with fail
    go_ret
    exact ⟨rfl, bel1 _ _⟩
set_option maxRecDepth 100000 in
set_option maxHeartbeats 4000000 in
theorem im_kidt (a : Fv) (vn : Value) (pk : Option Addr) (q ck i : Nat) (h : 40 ≤ a.k ∧ a.k ≤ 42) (hq : q ≤ 1048576) (hi : i < q) (h7 : a.k = 7 → q ≤ 3) (w : World) : Calls Tryz.prog 351 #[fmv a vn (.slice pk q ck), .int .i64 (i : Int)] w fun e w' => e = .returned (.int .i64 (sdk a.k a.m q i)) ∧ Below w.heap.size w w' := by
  obtain ⟨k, f, t, l, o, m, x⟩ := a
  have h' : k = 40 ∨ k = 41 ∨ k = 42 := by
    have h1 : 40 ≤ k := h.1
    have h2 : k ≤ 42 := h.2
    omega
  have hqI : (q : Int) ≤ 1048576 := by omega
  have hiI : (i : Int) < (q : Int) := by omega
  clear h hq
  unfold fmv
  rcases h' with rfl | rfl | rfl
  · show Calls Tryz.prog 351 _ w fun e w' => e = .returned (.int .i64 (3)) ∧ Below w.heap.size w w'
    clear h7 hi
    go_enter Tryz.func351, Tryz.ntmps351
    go_wp2_with fail
    go_ret
    exact ⟨rfl, bel1 _ _⟩
  · show Calls Tryz.prog 351 _ w fun e w' => e = .returned (.int .i64 (3)) ∧ Below w.heap.size w w'
    clear h7 hi
    go_enter Tryz.func351, Tryz.ntmps351
    go_wp2_with fail
    go_ret
    exact ⟨rfl, bel1 _ _⟩
  · show Calls Tryz.prog 351 _ w fun e w' => e = .returned (.int .i64 (3)) ∧ Below w.heap.size w w'
    clear h7 hi
    go_enter Tryz.func351, Tryz.ntmps351
    go_wp2_with fail
    go_ret
    exact ⟨rfl, bel1 _ _⟩
end Go.Proofs.YtjggnnmnegcpjaaGreatDoor.Fo
namespace Go.Proofs.YtjggnnmnegcpjaaGreatDoor.Fo
open Go.ChangeShapes Go.WideShapes Go.ChangeAt Go.RowKit
set_option linter.unusedVariables false
/-- which form may stand at a place -/
def tk (s k : Int) : Prop := (1 ≤ k ∧ k ≤ 16 ∧ (s = 0 ∨ (s = 1 ∧ k = 1) ∨ (s = 2 ∧ (k = 1 ∨ k = 7)))) ∨ (20 ≤ k ∧ k ≤ 37 ∧ tx s k) ∨ (40 ≤ k ∧ k ≤ 42 ∧ s = 9)
theorem ta_ss (v : Value) (W : World) : Sem.run Tryz.prog (Instr.typeAssert (.iface 207 v) 169 207 true) W = .ok (.tuple #[v, .bool true]) W := by kernel_rfl
theorem ta_es (v : Value) (W : World) : Sem.run Tryz.prog (Instr.typeAssert (.iface 208 v) 169 207 true) W = .ok (.tuple #[.agg #[.int .i64 0, .int .i64 0, .int .i64 0, .int .i64 0, .int .i64 0, .int .i64 0, .string ⟨#[]⟩, .slice none 0 0, .slice none 0 0], .bool false]) W := by kernel_rfl
theorem ta_ee (v : Value) (W : World) : Sem.run Tryz.prog (Instr.typeAssert (.iface 208 v) 169 208 true) W = .ok (.tuple #[v, .bool true]) W := by kernel_rfl
theorem ta_ns (v : Value) (W : World) : Sem.run Tryz.prog (Instr.typeAssert (.iface 209 v) 169 207 true) W = .ok (.tuple #[.agg #[.int .i64 0, .int .i64 0, .int .i64 0, .int .i64 0, .int .i64 0, .int .i64 0, .string ⟨#[]⟩, .slice none 0 0, .slice none 0 0], .bool false]) W := by kernel_rfl
theorem ta_ne (v : Value) (W : World) : Sem.run Tryz.prog (Instr.typeAssert (.iface 209 v) 169 208 true) W = .ok (.tuple #[.agg #[.int .i64 0, .int .i64 0, .int .i64 0, .int .i64 0, .int .i64 0, .int .i64 0, .string ⟨#[]⟩, .slice none 0 0, .slice none 0 0], .bool false]) W := by kernel_rfl
theorem ta_nn (v : Value) (W : World) : Sem.run Tryz.prog (Instr.typeAssert (.iface 209 v) 169 209 true) W = .ok (.tuple #[v, .bool true]) W := by kernel_rfl
theorem ta_zs (v : Value) (W : World) : Sem.run Tryz.prog (Instr.typeAssert (.nilIface) 169 207 true) W = .ok (.tuple #[.agg #[.int .i64 0, .int .i64 0, .int .i64 0, .int .i64 0, .int .i64 0, .int .i64 0, .string ⟨#[]⟩, .slice none 0 0, .slice none 0 0], .bool false]) W := by kernel_rfl
theorem ta_ze (v : Value) (W : World) : Sem.run Tryz.prog (Instr.typeAssert (.nilIface) 169 208 true) W = .ok (.tuple #[.agg #[.int .i64 0, .int .i64 0, .int .i64 0, .int .i64 0, .int .i64 0, .int .i64 0, .string ⟨#[]⟩, .slice none 0 0, .slice none 0 0], .bool false]) W := by kernel_rfl
theorem ta_zn (v : Value) (W : World) : Sem.run Tryz.prog (Instr.typeAssert (.nilIface) 169 209 true) W = .ok (.tuple #[.agg #[.int .i64 0, .int .i64 0, .int .i64 0, .int .i64 0, .int .i64 0, .int .i64 0, .string ⟨#[]⟩, .slice none 0 0, .slice none 0 0], .bool false]) W := by kernel_rfl
set_option maxRecDepth 100000 in
set_option maxHeartbeats 4000000 in
theorem im_tks (s : Int) (a : Fv) (pn : Option Addr) (p cn : Nat) (pk : Option Addr) (q ck : Nat) (hs : 0 ≤ s ∧ s ≤ 9) (h : 1 ≤ a.k ∧ a.k ≤ 16) (w : World) : Calls Tryz.prog 127 #[.int .i64 s, fmv a (.slice pn p cn) (.slice pk q ck)] w fun e w' => e = .returned (.bool (dc (tk s a.k))) ∧ Below w.heap.size w w' := by
  have HE : Hid (∀ W, Calls Tryz.prog 125 #[fmv a (.slice pn p cn) (.slice pk q ck)] W fun e w' => e = .returned (shv 207 a  (.slice pn p cn) (.slice pk q ck)) ∧ Below W.heap.size W w') := (fun W => im_shs a (.slice pn p cn) (.slice pk q ck) h W : ∀ W, _)
  obtain ⟨R, hR⟩ : ∃ R, R = dc (tk s a.k) := ⟨_, rfl⟩
  have HR : Hid (R = dc (tk s a.k)) := hR
  rw [← hR]
  clear hR
  obtain ⟨k, f, t, l, o, m, x⟩ := a
  obtain ⟨W2, hW2⟩ : ∃ W2, W2 = w.alloc (.cells #[.int .i64 k, .int .i64 f, .int .i64 t, .int .i64 l, .int .i64 o, .int .i64 m, .string x, .slice pn p cn, .slice pk q ck] 58) := ⟨_, rfl⟩
  have HB : Hid (Below w.heap.size w W2) := by show Below w.heap.size w W2; rw [hW2]; exact bel1 _ _
  unfold fmv at *
  go_enter Tryz.func127, Tryz.ntmps127
  go_wp2_with fail
  rw [← hW2]
  clear hW2
  refine ((show ∀ W, Calls Tryz.prog 125 #[.agg #[.int .i64 k, .int .i64 f, .int .i64 t, .int .i64 l, .int .i64 o, .int .i64 m, .string x, .slice pn p cn, .slice pk q ck]] W fun e w' => e = .returned (shv 207 ⟨k, f, t, l, o, m, x⟩ (.slice pn p cn) (.slice pk q ck)) ∧ Below W.heap.size W w' from HE) W2).mono ?_
  rintro e W3 ⟨rfl, b3⟩
  have HB3 : Hid (Below w.heap.size w W3) := (show Below w.heap.size w W2 from HB).trans (b3.mono (show Below w.heap.size w W2 from HB).size)
  clear b3 HB HE
  have h' : 1 ≤ k ∧ k ≤ 16 := h
  have HR' : Hid (R = dc (tk s k)) := HR
  clear h HR
  have hc : (s = 0) ∨ (s = 1 ∧ k = 1) ∨ (s = 1 ∧ k ≠ 1) ∨ (s = 2 ∧ k = 1) ∨ (s = 2 ∧ k = 7) ∨ (s = 2 ∧ k ≠ 1 ∧ k ≠ 7) ∨ (s ≠ 0 ∧ s ≠ 1 ∧ s ≠ 2) := by omega
  unfold shv fmv
  have ta := fun W => ta_ss (.agg #[.int .i64 k, .int .i64 f, .int .i64 t, .int .i64 l, .int .i64 o, .int .i64 m, .string x, .slice pn p cn, .slice pk q ck]) W
  rcases hc with hc | hc | hc | hc | hc | hc | hc
  · have HX : Hid (R = true) := (show R = _ from HR').trans (dc_t (by unfold tk tx; omega))
    have g0 : (s == 0) = true := beq1 (by omega)
    clear hc h' hs HR'
    go_wp2_with fail
    go_ret
    exact ⟨by rw [show R = _ from HX]; rfl, by first | exact HB3 | exact (show Below w.heap.size w W3 from HB3).alloc (show Below w.heap.size w W3 from HB3).size _⟩
  · have HX : Hid (R = true) := (show R = _ from HR').trans (dc_t (by unfold tk tx; omega))
    have g0 : (s == 0) = false := bne (by omega)
    have g1 : (s == 1) = true := beq1 (by omega)
    have j1 : (k == 1) = true := beq1 (by omega)
    clear hc h' hs HR'
    go_wp2_with fail
    go_ret
    exact ⟨by rw [show R = _ from HX]; rfl, by first | exact HB3 | exact (show Below w.heap.size w W3 from HB3).alloc (show Below w.heap.size w W3 from HB3).size _⟩
  · have HX : Hid (R = false) := (show R = _ from HR').trans (dc_f (by unfold tk tx; omega))
    have g0 : (s == 0) = false := bne (by omega)
    have g1 : (s == 1) = true := beq1 (by omega)
    have j1 : (k == 1) = false := bne (by omega)
    have g2 : (s == 2) = false := bne (by omega)
    clear hc h' hs HR'
    go_wp2_with fail
    go_ret
    exact ⟨by rw [show R = _ from HX]; rfl, by first | exact HB3 | exact (show Below w.heap.size w W3 from HB3).alloc (show Below w.heap.size w W3 from HB3).size _⟩
  · have HX : Hid (R = true) := (show R = _ from HR').trans (dc_t (by unfold tk tx; omega))
    have g0 : (s == 0) = false := bne (by omega)
    have g1 : (s == 1) = false := bne (by omega)
    have j1 : (k == 1) = true := beq1 (by omega)
    have g2 : (s == 2) = true := beq1 (by omega)
    clear hc h' hs HR'
    go_wp2_with fail
    go_ret
    exact ⟨by rw [show R = _ from HX]; rfl, by first | exact HB3 | exact (show Below w.heap.size w W3 from HB3).alloc (show Below w.heap.size w W3 from HB3).size _⟩
  · have HX : Hid (R = true) := (show R = _ from HR').trans (dc_t (by unfold tk tx; omega))
    have g0 : (s == 0) = false := bne (by omega)
    have g1 : (s == 1) = false := bne (by omega)
    have j1 : (k == 1) = false := bne (by omega)
    have g2 : (s == 2) = true := beq1 (by omega)
    have j7 : (k == 7) = true := beq1 (by omega)
    clear hc h' hs HR'
    go_wp2_with fail
    go_ret
    exact ⟨by rw [show R = _ from HX]; rfl, by first | exact HB3 | exact (show Below w.heap.size w W3 from HB3).alloc (show Below w.heap.size w W3 from HB3).size _⟩
  · have HX : Hid (R = false) := (show R = _ from HR').trans (dc_f (by unfold tk tx; omega))
    have g0 : (s == 0) = false := bne (by omega)
    have g1 : (s == 1) = false := bne (by omega)
    have j1 : (k == 1) = false := bne (by omega)
    have g2 : (s == 2) = true := beq1 (by omega)
    have j7 : (k == 7) = false := bne (by omega)
    clear hc h' hs HR'
    go_wp2_with fail
    go_ret
    exact ⟨by rw [show R = _ from HX]; rfl, by first | exact HB3 | exact (show Below w.heap.size w W3 from HB3).alloc (show Below w.heap.size w W3 from HB3).size _⟩
  · have HX : Hid (R = false) := (show R = _ from HR').trans (dc_f (by unfold tk tx; omega))
    have g0 : (s == 0) = false := bne (by omega)
    have g1 : (s == 1) = false := bne (by omega)
    have g2 : (s == 2) = false := bne (by omega)
    clear hc h' hs HR'
    go_wp2_with fail
    go_ret
    exact ⟨by rw [show R = _ from HX]; rfl, by first | exact HB3 | exact (show Below w.heap.size w W3 from HB3).alloc (show Below w.heap.size w W3 from HB3).size _⟩
set_option maxRecDepth 100000 in
set_option maxHeartbeats 4000000 in
theorem im_tke (s : Int) (a : Fv) (pn : Option Addr) (p cn : Nat) (pk : Option Addr) (q ck : Nat) (hs : 0 ≤ s ∧ s ≤ 9) (h : 20 ≤ a.k ∧ a.k ≤ 37) (w : World) : Calls Tryz.prog 127 #[.int .i64 s, fmv a (.slice pn p cn) (.slice pk q ck)] w fun e w' => e = .returned (.bool (dc (tk s a.k))) ∧ Below w.heap.size w w' := by
  have HE : Hid (∀ W, Calls Tryz.prog 125 #[fmv a (.slice pn p cn) (.slice pk q ck)] W fun e w' => e = .returned (shv 208 a  (.slice pn p cn) (.slice pk q ck)) ∧ Below W.heap.size W w') := (fun W => im_she a (.slice pn p cn) (.slice pk q ck) h W : ∀ W, _)
  have HX : Hid (∀ W, Calls Tryz.prog 178 #[.int .i64 s, .int .i64 a.k] W fun e w' => e = .returned (.bool (dc (tk s a.k))) ∧ w' = W) := (fun W => by rw [show dc (tk s a.k) = dc (tx s a.k) from dc_iff (by unfold tk tx; omega)]; exact im_tx s a.k hs W : ∀ W, _)
  obtain ⟨R, hR⟩ : ∃ R, R = dc (tk s a.k) := ⟨_, rfl⟩
  rw [← hR] at HX
  rw [← hR]
  clear hs h hR
  obtain ⟨k, f, t, l, o, m, x⟩ := a
  obtain ⟨W2, hW2⟩ : ∃ W2, W2 = w.alloc (.cells #[.int .i64 k, .int .i64 f, .int .i64 t, .int .i64 l, .int .i64 o, .int .i64 m, .string x, .slice pn p cn, .slice pk q ck] 58) := ⟨_, rfl⟩
  have HB : Hid (Below w.heap.size w W2) := by show Below w.heap.size w W2; rw [hW2]; exact bel1 _ _
  unfold fmv at *
  go_enter Tryz.func127, Tryz.ntmps127
  go_wp2_with fail
  rw [← hW2]
  clear hW2
  refine ((show ∀ W, Calls Tryz.prog 125 #[.agg #[.int .i64 k, .int .i64 f, .int .i64 t, .int .i64 l, .int .i64 o, .int .i64 m, .string x, .slice pn p cn, .slice pk q ck]] W fun e w' => e = .returned (shv 208 ⟨k, f, t, l, o, m, x⟩ (.slice pn p cn) (.slice pk q ck)) ∧ Below W.heap.size W w' from HE) W2).mono ?_
  rintro e W3 ⟨rfl, b3⟩
  have HB3 : Hid (Below w.heap.size w W3) := (show Below w.heap.size w W2 from HB).trans (b3.mono (show Below w.heap.size w W2 from HB).size)
  clear b3 HB HE
  unfold shv fmv
  have ta := fun W => ta_es (.agg #[.int .i64 k, .int .i64 f, .int .i64 t, .int .i64 l, .int .i64 o, .int .i64 m, .string x, .slice pn p cn, .slice pk q ck]) W
  have tb := fun W => ta_ee (.agg #[.int .i64 k, .int .i64 f, .int .i64 t, .int .i64 l, .int .i64 o, .int .i64 m, .string x, .slice pn p cn, .slice pk q ck]) W
  go_wp2_with fail
  refine ((show ∀ W, Calls Tryz.prog 178 #[.int .i64 s, .int .i64 k] W fun e w' => e = .returned (.bool R) ∧ w' = W from HX) _).mono ?_
  rintro e W4 ⟨rfl, rfl⟩
  clear HX ta tb
  go_wp2_with fail
  go_ret
  exact ⟨rfl, (show Below w.heap.size w W3 from HB3).alloc (show Below w.heap.size w W3 from HB3).size _⟩
set_option maxRecDepth 100000 in
set_option maxHeartbeats 4000000 in
theorem im_tkt (s : Int) (a : Fv) (pn : Option Addr) (p cn : Nat) (pk : Option Addr) (q ck : Nat) (hs : 0 ≤ s ∧ s ≤ 9) (h : 40 ≤ a.k ∧ a.k ≤ 42) (w : World) : Calls Tryz.prog 127 #[.int .i64 s, fmv a (.slice pn p cn) (.slice pk q ck)] w fun e w' => e = .returned (.bool (dc (tk s a.k))) ∧ Below w.heap.size w w' := by
  have HE : Hid (∀ W, Calls Tryz.prog 125 #[fmv a (.slice pn p cn) (.slice pk q ck)] W fun e w' => e = .returned (shv 209 a  (.slice pn p cn) (.slice pk q ck)) ∧ Below W.heap.size W w') := (fun W => im_sht a (.slice pn p cn) (.slice pk q ck) h W : ∀ W, _)
  obtain ⟨R, hR⟩ : ∃ R, R = dc (tk s a.k) := ⟨_, rfl⟩
  have HR : Hid (R = dc (tk s a.k)) := hR
  rw [← hR]
  clear hR
  obtain ⟨k, f, t, l, o, m, x⟩ := a
  obtain ⟨W2, hW2⟩ : ∃ W2, W2 = w.alloc (.cells #[.int .i64 k, .int .i64 f, .int .i64 t, .int .i64 l, .int .i64 o, .int .i64 m, .string x, .slice pn p cn, .slice pk q ck] 58) := ⟨_, rfl⟩
  have HB : Hid (Below w.heap.size w W2) := by show Below w.heap.size w W2; rw [hW2]; exact bel1 _ _
  unfold fmv at *
  go_enter Tryz.func127, Tryz.ntmps127
  go_wp2_with fail
  rw [← hW2]
  clear hW2
  refine ((show ∀ W, Calls Tryz.prog 125 #[.agg #[.int .i64 k, .int .i64 f, .int .i64 t, .int .i64 l, .int .i64 o, .int .i64 m, .string x, .slice pn p cn, .slice pk q ck]] W fun e w' => e = .returned (shv 209 ⟨k, f, t, l, o, m, x⟩ (.slice pn p cn) (.slice pk q ck)) ∧ Below W.heap.size W w' from HE) W2).mono ?_
  rintro e W3 ⟨rfl, b3⟩
  have HB3 : Hid (Below w.heap.size w W3) := (show Below w.heap.size w W2 from HB).trans (b3.mono (show Below w.heap.size w W2 from HB).size)
  clear b3 HB HE
  have h' : 40 ≤ k ∧ k ≤ 42 := h
  have HR' : Hid (R = dc (tk s k)) := HR
  clear h HR
  unfold shv fmv
  have ta := fun W => ta_ns (.agg #[.int .i64 k, .int .i64 f, .int .i64 t, .int .i64 l, .int .i64 o, .int .i64 m, .string x, .slice pn p cn, .slice pk q ck]) W
  have tb := fun W => ta_ne (.agg #[.int .i64 k, .int .i64 f, .int .i64 t, .int .i64 l, .int .i64 o, .int .i64 m, .string x, .slice pn p cn, .slice pk q ck]) W
  have tc := fun W => ta_nn (.agg #[.int .i64 k, .int .i64 f, .int .i64 t, .int .i64 l, .int .i64 o, .int .i64 m, .string x, .slice pn p cn, .slice pk q ck]) W
  rcases Classical.em (s = 9) with hc | hc
  · have HX : Hid (R = true) := (show R = _ from HR').trans (dc_t (by unfold tk tx; omega))
    have g0 : (s == 9) = true := beq1 hc
    clear hc h' hs HR'
    go_wp2_with fail
    go_ret
    exact ⟨by rw [show R = _ from HX]; rfl, by first | exact HB3 | exact (show Below w.heap.size w W3 from HB3).alloc (show Below w.heap.size w W3 from HB3).size _⟩
  · have HX : Hid (R = false) := (show R = _ from HR').trans (dc_f (by unfold tk tx; omega))
    have g0 : (s == 9) = false := bne hc
    clear hc h' hs HR'
    go_wp2_with fail
    go_ret
    exact ⟨by rw [show R = _ from HX]; rfl, by first | exact HB3 | exact (show Below w.heap.size w W3 from HB3).alloc (show Below w.heap.size w W3 from HB3).size _⟩
set_option maxRecDepth 100000 in
set_option maxHeartbeats 4000000 in
theorem im_tkn (s : Int) (a : Fv) (pn : Option Addr) (p cn : Nat) (pk : Option Addr) (q ck : Nat) (hs : 0 ≤ s ∧ s ≤ 9) (h : ¬ (1 ≤ a.k ∧ a.k ≤ 16) ∧ ¬ (20 ≤ a.k ∧ a.k ≤ 37) ∧ ¬ (40 ≤ a.k ∧ a.k ≤ 42)) (w : World) : Calls Tryz.prog 127 #[.int .i64 s, fmv a (.slice pn p cn) (.slice pk q ck)] w fun e w' => e = .returned (.bool (dc (tk s a.k))) ∧ Below w.heap.size w w' := by
  have HE : Hid (∀ W, Calls Tryz.prog 125 #[fmv a (.slice pn p cn) (.slice pk q ck)] W fun e w' => e = .returned (.nilIface) ∧ Below W.heap.size W w') := (fun W => im_shn a (.slice pn p cn) (.slice pk q ck) h W : ∀ W, _)
  obtain ⟨R, hR⟩ : ∃ R, R = dc (tk s a.k) := ⟨_, rfl⟩
  have HR : Hid (R = dc (tk s a.k)) := hR
  rw [← hR]
  clear hR
  obtain ⟨k, f, t, l, o, m, x⟩ := a
  obtain ⟨W2, hW2⟩ : ∃ W2, W2 = w.alloc (.cells #[.int .i64 k, .int .i64 f, .int .i64 t, .int .i64 l, .int .i64 o, .int .i64 m, .string x, .slice pn p cn, .slice pk q ck] 58) := ⟨_, rfl⟩
  have HB : Hid (Below w.heap.size w W2) := by show Below w.heap.size w W2; rw [hW2]; exact bel1 _ _
  unfold fmv at *
  go_enter Tryz.func127, Tryz.ntmps127
  go_wp2_with fail
  rw [← hW2]
  clear hW2
  refine ((show ∀ W, Calls Tryz.prog 125 #[.agg #[.int .i64 k, .int .i64 f, .int .i64 t, .int .i64 l, .int .i64 o, .int .i64 m, .string x, .slice pn p cn, .slice pk q ck]] W fun e w' => e = .returned (.nilIface) ∧ Below W.heap.size W w' from HE) W2).mono ?_
  rintro e W3 ⟨rfl, b3⟩
  have HB3 : Hid (Below w.heap.size w W3) := (show Below w.heap.size w W2 from HB).trans (b3.mono (show Below w.heap.size w W2 from HB).size)
  clear b3 HB HE
  have h' : ¬ (1 ≤ k ∧ k ≤ 16) ∧ ¬ (20 ≤ k ∧ k ≤ 37) ∧ ¬ (40 ≤ k ∧ k ≤ 42) := h
  have HX : Hid (R = false) := (show R = dc (tk s k) from HR).trans (dc_f (by unfold tk; omega))
  clear h HR h' hs
  have ta := fun W => ta_zs .nilIface W
  have tb := fun W => ta_ze .nilIface W
  have tc := fun W => ta_zn .nilIface W
  go_wp2_with fail
  go_ret
  exact ⟨by rw [show R = _ from HX]; rfl, by first | exact HB3 | exact (show Below w.heap.size w W3 from HB3).alloc (show Below w.heap.size w W3 from HB3).size _⟩
theorem im_tk (s : Int) (a : Fv) (pn : Option Addr) (p cn : Nat) (pk : Option Addr) (q ck : Nat) (hs : 0 ≤ s ∧ s ≤ 9) (w : World) : Calls Tryz.prog 127 #[.int .i64 s, fmv a (.slice pn p cn) (.slice pk q ck)] w fun e w' => e = .returned (.bool (dc (tk s a.k))) ∧ Below w.heap.size w w' := by
  by_cases h1 : 1 ≤ a.k ∧ a.k ≤ 16
  · exact im_tks s a pn p cn pk q ck hs h1 w
  · by_cases h2 : 20 ≤ a.k ∧ a.k ≤ 37
    · exact im_tke s a pn p cn pk q ck hs h2 w
    · by_cases h3 : 40 ≤ a.k ∧ a.k ≤ 42
      · exact im_tkt s a pn p cn pk q ck hs h3 w
      · exact im_tkn s a pn p cn pk q ck hs ⟨h1, h2, h3⟩ w
end Go.Proofs.YtjggnnmnegcpjaaGreatDoor.Fo
