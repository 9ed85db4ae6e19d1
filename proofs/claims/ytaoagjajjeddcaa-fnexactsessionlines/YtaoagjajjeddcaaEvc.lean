import Derived.Test.YtaoagjajjeddcaaEvb
namespace Go.Proofs.Ytaoagjajjeddcaa.Fo
open Go.ChangeShapes Go.WideShapes Go.ChangeAt Go.RowKit
set_option linter.unusedVariables false
set_option maxRecDepth 100000
/-- what the table says of an event -/
def nhi (op : Int) : Int := if op = 3 then 50 else if op = 5 then 1000 else if op = 7 then 19 else if op = 15 then 19 else if op = 12 then 99 else if op = 17 then 200 else if op = 19 then 16511 else 0
def mlo (op : Int) : Int := if op = 19 then 1 else 0
def mhi (op : Int) : Int := if op = 19 then 255 else 0
def xlo (op : Int) : Int := if op = 14 then 1 else 0
def xhi (op : Int) : Int := if op = 4 then 4000 else if op = 14 then 40 else 0
def yhi (op : Int) : Int := if op = 2 then 4000 else if op = 4 then 4000 else if op = 20 then 65536 else 0
def khi (op : Int) : Int := if op = 17 then 200 else 0
def sbt (op : Int) : Bool := if op = 6 then true else false
def StQ (op k f l : Int) (zs : Nat) : Prop := (op = 6 → StP k f l zs) ∧ (¬ op = 6 → k = 0 ∧ f = 0 ∧ l = 0 ∧ zs = 0)
def EvP (op n m : Int) (xs ys ks : Nat) (k f l : Int) (zs : Nat) : Prop := (1 ≤ op ∧ op ≤ 21) ∧ (0 ≤ n ∧ n ≤ nhi op) ∧ (mlo op ≤ m ∧ m ≤ mhi op) ∧ (xlo op ≤ (xs : Int) ∧ (xs : Int) ≤ xhi op) ∧ (0 ≤ (ys : Int) ∧ (ys : Int) ≤ yhi op) ∧ (0 ≤ (ks : Int) ∧ (ks : Int) ≤ khi op) ∧ StQ op k f l zs

set_option maxHeartbeats 16000000 in
theorem im_row {op : Int} (w : World) (h1 : 1 ≤ op) (h2 : op ≤ 21) :
    Calls Try.prog 28 #[.int .i64 op] w fun e w' => e = .returned (.tuple #[.agg #[.int .i64 0, .int .i64 (nhi op), .int .i64 (mlo op), .int .i64 (mhi op), .int .i64 (xlo op), .int .i64 (xhi op), .int .i64 0, .int .i64 (yhi op), .int .i64 0, .int .i64 (khi op), .bool (sbt op)], .bool true]) ∧ Kb 0 w w' := by
  have h : op = 1 ∨ op = 2 ∨ op = 3 ∨ op = 4 ∨ op = 5 ∨ op = 6 ∨ op = 7 ∨ op = 8 ∨ op = 9 ∨ op = 10 ∨ op = 11 ∨ op = 12 ∨ op = 13 ∨ op = 14 ∨ op = 15 ∨ op = 16 ∨ op = 17 ∨ op = 18 ∨ op = 19 ∨ op = 20 ∨ op = 21 := by omega
  clear h1 h2
  rcases h with rfl | rfl | rfl | rfl | rfl | rfl | rfl | rfl | rfl | rfl | rfl | rfl | rfl | rfl | rfl | rfl | rfl | rfl | rfl | rfl | rfl
  all_goals
    go_enter Try.func28, Try.ntmps28
    go_wp2_with fail
    refine bodyPost_ret (by simp [results, Try.results28, go_sem]; rfl) rfl ?_
    exact ⟨rfl, kb_alloc _ _ _⟩
set_option maxHeartbeats 16000000 in
theorem im_row_no {op : Int} (w : World) (h1 : ¬ (1 ≤ op ∧ op ≤ 21)) :
    Calls Try.prog 28 #[.int .i64 op] w fun e w' => e = .returned (.tuple #[.agg #[.int .i64 0, .int .i64 0, .int .i64 0, .int .i64 0, .int .i64 0, .int .i64 0, .int .i64 0, .int .i64 0, .int .i64 0, .int .i64 0, .bool false], .bool false]) ∧ Kb 0 w w' := by
  have e1 : (op == 1) = false := by simp; omega
  have e2 : (op == 2) = false := by simp; omega
  have e3 : (op == 3) = false := by simp; omega
  have e4 : (op == 4) = false := by simp; omega
  have e5 : (op == 5) = false := by simp; omega
  have e6 : (op == 6) = false := by simp; omega
  have e7 : (op == 7) = false := by simp; omega
  have e8 : (op == 8) = false := by simp; omega
  have e9 : (op == 9) = false := by simp; omega
  have e10 : (op == 10) = false := by simp; omega
  have e11 : (op == 11) = false := by simp; omega
  have e12 : (op == 12) = false := by simp; omega
  have e13 : (op == 13) = false := by simp; omega
  have e14 : (op == 14) = false := by simp; omega
  have e15 : (op == 15) = false := by simp; omega
  have e16 : (op == 16) = false := by simp; omega
  have e17 : (op == 17) = false := by simp; omega
  have e18 : (op == 18) = false := by simp; omega
  have e19 : (op == 19) = false := by simp; omega
  have e20 : (op == 20) = false := by simp; omega
  have e21 : (op == 21) = false := by simp; omega
  clear h1
  go_enter Try.func28, Try.ntmps28
  go_wp2_with fail
  refine bodyPost_ret (by simp [results, Try.results28, go_sem]; rfl) rfl ?_
  exact ⟨rfl, kb_alloc _ _ _⟩
end Go.Proofs.Ytaoagjajjeddcaa.Fo
