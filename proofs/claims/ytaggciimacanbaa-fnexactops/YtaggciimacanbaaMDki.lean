import Derived.RangeFuncFrom
import Derived.RangeFuncLeaves
import Derived.RangeFuncCalls
import Derived.OwnWalkIn
import Derived.TacticsInMore
import Derived.LoopNIn
import Derived.LoopIn
import Derived.Shelf.Abstract
import Derived.RangeFuncKeeps
import Derived.Sort.QuietIn
import Derived.Test.YtaggciimacanbaaMDka
namespace Go.Proofs.Ytaggciimacanbaa.Fo
open Go.ChangeShapes Go.WideShapes Go.ChangeAt Go.RowKit Go.Shelf
set_option linter.unusedVariables false
set_option maxRecDepth 100000
attribute [local go_sem] Oper.semAt_some
/-- the pieces in order -/
def Orc {q : Nat} (pre : List {j : Nat // j < q}) : Prop := pre.map (fun x => x.val) = List.range pre.length
theorem Orc.nil {q : Nat} : Orc ([] : List {j : Nat // j < q}) := rfl
theorem Orc.app {q : Nat} {pre : List {j : Nat // j < q}} {x : {j : Nat // j < q}} (h : Orc (pre ++ [x])) : Orc pre ∧ x.val = pre.length := by
  unfold Orc at h ⊢
  rw [List.map_append, List.length_append, List.length_singleton, List.range_succ] at h
  have := List.append_inj' h rfl
  exact ⟨this.1, by simpa using this.2⟩
theorem Orc.push {q : Nat} {pre : List {j : Nat // j < q}} {x : {j : Nat // j < q}} (h : Orc pre) (hx : x.val = pre.length) : Orc (pre ++ [x]) := by
  unfold Orc at h ⊢
  rw [List.map_append, List.length_append, List.length_singleton, List.range_succ, h, List.map_singleton, hx]
/-- the length of piece j -/
def pcn (q j : Nat) : Nat := min 64 (q - j * 64)
/-- piece j of the row at a -/
def pcv (a : Addr) (q j : Nat) : Value := .slice (some (a.add (j * 64))) (pcn q j) (pcn q j)
set_option maxHeartbeats 1000000 in
theorem chk_make (a : Option Addr) (len cap : Nat) (w : World) :
    Calls Try.prog 67 #[.slice a len cap, .int .i64 64] w fun e w' => e = .returned (.func (.func 103) #[] #[.pointer (some ⟨w.heap.size, 0, none⟩), .pointer (some ⟨w.heap.size + 1, 0, none⟩)]) ∧ w' = (w.alloc (.cells #[.slice a len cap] 26)).alloc (.cells #[.int .i64 64] 3) := by
  obtain ⟨w2, hw2⟩ : ∃ w2, w2 = (w.alloc (.cells #[.slice a len cap] 26)).alloc (.cells #[.int .i64 64] 3) := ⟨_, rfl⟩
  have b2 := (two_newD w _ _ _ _ w2 hw2).2.1
  have u2 : w2.cell? ⟨w.heap.size + 1, 0, none⟩ = some (.int .i64 64) := cell_of b2 rfl
  have HW2 : Hid (w2 = (w.alloc (.cells #[.slice a len cap] 26)).alloc (.cells #[.int .i64 64] 3)) := hw2
  clear hw2 b2
  go_enter Try.func67, Try.ntmps67
  go_upto_region 1 with fail
  try simp only [World.size_alloc]
  rw [← (show w2 = _ from HW2)]
  go_wp2_with fail
  go_ret
  exact ⟨rfl, HW2⟩
end Go.Proofs.Ytaggciimacanbaa.Fo

namespace Go.Proofs.Ytaggciimacanbaa.Fo
open Go.ChangeShapes Go.WideShapes Go.ChangeAt Go.RowKit Go.Shelf
set_option linter.unusedVariables false
set_option maxRecDepth 100000
attribute [local go_sem] Oper.semAt_some
/-- a round keeps what is below n and the two boxes -/
def Kp3 (n B1 B2 : Nat) (W W' : World) : Prop := ∀ k, k < n ∨ k = B1 ∨ k = B2 → W'.heap[k]? = W.heap[k]?
theorem Kp3.refl (n B1 B2 : Nat) (W : World) : Kp3 n B1 B2 W W := fun _ _ => rfl
theorem Kp3.trans {n B1 B2 : Nat} {A B C : World} (h : Kp3 n B1 B2 A B) (k : Kp3 n B1 B2 B C) : Kp3 n B1 B2 A C := fun i hi => (k i hi).trans (h i hi)
set_option maxHeartbeats 4000000 in
theorem chk_in (n : Nat) (hn : 1 ≤ n) (l B1 B2 : Nat) (w0 : World) {a : Addr} {q ca : Nat} (hq0 : 0 < q) (hq : q ≤ 8192) (hca : q ≤ ca) (J Jx : List {j : Nat // j < opn q} → World → Prop)
    (hY : ∀ pre x W, J pre W → pre.length < opn q → YieldAt Fence.wide (n - 1) Try.prog l #[pcv a q x.val] W fun e W' =>
      (e = .returned (.bool true) ∧ J (pre ++ [x]) W' ∧ Kp3 w0.heap.size B1 B2 W W') ∨ (e = .returned (.bool false) ∧ Jx (pre ++ [x]) W'))
    (W : World) (h1 : W.cell? ⟨B1, 0, none⟩ = some (.slice (some a) q ca)) (h2 : W.cell? ⟨B2, 0, none⟩ = some (.int .i64 64)) (h0 : J [] W) (hD : ∀ pre W n, J pre W → J pre (W.drewN n)) :
    CallsIn Fence.wide n Try.prog 103 #[.func (.yield l) #[] #[], .pointer (some ⟨B1, 0, none⟩), .pointer (some ⟨B2, 0, none⟩)] W fun e W' => (∃ v, e = .returned v) ∧
      ((∃ ys, (Orc ys ∧ ys.length = opn q) ∧ J ys W') ∨ (∃ pre, Orc pre ∧ Jx pre W')) := by
  have HY : Hid (∀ pre x W, J pre W → pre.length < opn q → YieldAt Fence.wide (n - 1) Try.prog l #[pcv a q x.val] W fun e W' =>
      (e = .returned (.bool true) ∧ J (pre ++ [x]) W' ∧ Kp3 w0.heap.size B1 B2 W W') ∨ (e = .returned (.bool false) ∧ Jx (pre ++ [x]) W')) := hY
  have HW : Hid (W.cell? ⟨B1, 0, none⟩ = some (.slice (some a) q ca) ∧ W.cell? ⟨B2, 0, none⟩ = some (.int .i64 64)) := (⟨h1, h2⟩ : _ ∧ _)
  have HQ : Hid (0 < q ∧ q ≤ 8192 ∧ q ≤ ca) := (⟨hq0, hq, hca⟩ : _ ∧ _ ∧ _)
  clear hY h1 h2 hq hq0 hca
  refine callsIn_of_wp Try.func103 rfl trivial ?_ rfl
  simp only [Try.ntmps103, List.size_toArray, List.length_cons, List.length_nil, Nat.reduceAdd, Nat.reduceSub, Array.replicate_succ, Array.replicate_zero, List.push_toArray, List.append_toArray, List.nil_append, List.cons_append]
  gi_wp2_with fail
  gi_loopw [4] (fun i wr => ∃ k : Nat, k ≤ opn q ∧ i = .int .i64 ((k * 64 : Nat) : Int) ∧ Hid (∃ pre, pre.length = k ∧ Orc pre ∧ J pre wr ∧ Kp3 w0.heap.size B1 B2 W wr)) (fun i _ => (8192 + 64 - intOf i).toNat)
  case atStart => exact ⟨0, Nat.zero_le _, by first | rfl | simp, (⟨[], rfl, Orc.nil, h0, Kp3.refl _ _ _ _⟩ : ∃ pre, _)⟩
  case round =>
    clear h0
    obtain ⟨k, hk, rfl, HI⟩ := hrel
    obtain ⟨pre, hpl, hord, hj, hkp⟩ := (show ∃ pre, pre.length = k ∧ Orc pre ∧ J pre wr ∧ Kp3 w0.heap.size B1 B2 W wr from HI)
    obtain ⟨hW1, hW2⟩ := (show W.cell? ⟨B1, 0, none⟩ = some (.slice (some a) q ca) ∧ W.cell? ⟨B2, 0, none⟩ = some (.int .i64 64) from HW)
    obtain ⟨hq0, hq, hca⟩ := (show 0 < q ∧ q ≤ 8192 ∧ q ≤ ca from HQ)
    have c1 : wr.cell? ⟨B1, 0, none⟩ = some (.slice (some a) q ca) := (World.cell?_of_block (hkp B1 (.inr (.inl rfl)))).trans hW1
    have c2 : wr.cell? ⟨B2, 0, none⟩ = some (.int .i64 64) := (World.cell?_of_block (hkp B2 (.inr (.inr rfl)))).trans hW2
    unfold opn at hk
    obtain ⟨i, hi⟩ : ∃ i : Nat, i = k * 64 := ⟨_, rfl⟩
    rw [← hi]
    rcases Nat.lt_or_ge i q with hlt | hge
    · have hkK : k < opn q := by unfold opn; omega
      have hiI : (i : Int) < (q : Int) := by omega
      have HYY : Hid (∀ nq, YieldAt Fence.wide (n - 1) Try.prog l #[pcv a q k] (wr.drewN nq) fun e W' => (e = .returned (.bool true) ∧ J (pre ++ [⟨k, hkK⟩]) W' ∧ Kp3 w0.heap.size B1 B2 (wr.drewN nq) W') ∨ (e = .returned (.bool false) ∧ Jx (pre ++ [⟨k, hkK⟩]) W')) := (fun nq => (show ∀ pre x W, J pre W → pre.length < opn q → _ from HY) pre ⟨k, hkK⟩ _ (hD _ _ nq hj) (by omega) : ∀ nq, _)
      have HX : Hid (Orc (pre ++ [⟨k, hkK⟩]) ∧ (pre ++ [(⟨k, hkK⟩ : {j : Nat // j < opn q})]).length = k + 1 ∧ Kp3 w0.heap.size B1 B2 W wr) := (⟨hord.push (by show k = _; omega), by simp; omega, hkp⟩ : _ ∧ _ ∧ _)
      clear HI HY HW hord hj hkp hW1 hW2 hpl
      gi_wp2
      gi_quiet (fail)
      obtain ⟨m, hm⟩ : ∃ m : Nat, m = pcn q k := ⟨_, rfl⟩
      have hmin : min (64 : Int) ((q - k * 64 : Nat) : Int) = (m : Int) := by rw [hm]; unfold pcn; omega
      have hm1 : k * 64 + m ≤ q := by rw [hm]; unfold pcn; omega
      have hm0 : ¬ m = 0 := by rw [hm]; unfold pcn; omega
      have hm3 : ¬ k * 64 + m = k * 64 := by omega
      have hm2 : m ≤ 64 := by rw [hm]; unfold pcn; omega
      rw [hmin]
      have c3 : (wr.drewN nq).cell? ⟨B1, 0, none⟩ = some (.slice (some a) q ca) := c1
      have c4 : (wr.drewN nq).cell? ⟨B2, 0, none⟩ = some (.int .i64 64) := c2
      obtain ⟨fn, tmps, assign, body, hy, hR⟩ := (show ∀ nq, _ from HYY) nq
      unfold pcv at hy
      rw [← hm] at hy
      obtain ⟨w5, hw5⟩ : ∃ w5, w5 = wr.drewN nq := ⟨_, rfl⟩
      have HKD : Hid (Kp3 w0.heap.size B1 B2 wr w5) := (by rw [hw5]; exact fun _ _ => rfl : Kp3 w0.heap.size B1 B2 wr w5)
      rw [← hw5] at c3 c4 hy hR ⊢
      have hi64 : (i : Int) = ((k * 64 : Nat) : Int) := by omega
      have hmI : ((k * 64 : Nat) : Int) + (m : Int) ≤ (q : Int) := by omega
      have hmJ : (i : Int) + (m : Int) ≤ (q : Int) := by omega
      have hmC : (i : Int) + (m : Int) ≤ (ca : Int) := by omega
      have HDN : Hid (Kp3 w0.heap.size B1 B2 W w5) := (show _ ∧ _ ∧ _ from HX).2.2.trans HKD
      clear hmin hm HYY c1 c2 hw5 HKD
      gi_wp2
      refine hR.mono ?_
      rintro e W3 (⟨rfl, hJ3, hk3⟩ | ⟨rfl, hJx3⟩)
      · have c5 : W3.cell? ⟨B2, 0, none⟩ = some (.int .i64 64) := (World.cell?_of_block (hk3 B2 (.inr (.inr rfl)))).trans c4
        have HX3 : Hid (∃ pre, pre.length = k + 1 ∧ Orc pre ∧ J pre W3 ∧ Kp3 w0.heap.size B1 B2 W W3) := (⟨_, HX.2.1, HX.1, hJ3, (show Kp3 w0.heap.size B1 B2 W w5 from HDN).trans hk3⟩ : ∃ pre, _)
        have hkk : k + 1 ≤ opn q := hkK
        clear HX hJ3 hk3 hR hy c3 c4 HDN
        gi_wp2
        go_roundw
        case rel => exact ⟨k + 1, hkk, by first | rfl | (congr 1; omega), HX3⟩
        case measure => first | (simp [intOf]; done) | (simp [intOf]; omega)
      · gi_wp2
        refine bodyPost_ret (results_none rfl _ _ _) rfl ?_
        exact ⟨⟨_, rfl⟩, .inr ⟨_, HX.1, hJx3⟩⟩
    · have HX : Hid (∃ pre, pre.length = k ∧ Orc pre ∧ J pre wr ∧ Kp3 w0.heap.size B1 B2 W wr) := HI
      have hkK : k = opn q := by unfold opn; omega
      have hiI : ¬ (i : Int) < (q : Int) := by omega
      have HKK : Hid (k = opn q) := hkK
      clear HI HY HW hord hj hkp hW1 hW2 hkK
      gi_wp2
      go_end0
      obtain ⟨pre, h1, h2, h3, _⟩ := (show ∃ pre, pre.length = k ∧ Orc pre ∧ J pre wr ∧ Kp3 w0.heap.size B1 B2 W wr from HX)
      exact ⟨⟨_, rfl⟩, .inl ⟨pre, ⟨h2, h1.trans HKK⟩, h3⟩⟩
theorem chk_stops (n : Nat) (hn : 1 ≤ n) (B1 B2 : Nat) (w0 w : World) {a : Addr} {q ca : Nat} (hq0 : 0 < q) (hq : q ≤ 8192) (hca : q ≤ ca) (h1 : w.cell? ⟨B1, 0, none⟩ = some (.slice (some a) q ca)) (h2 : w.cell? ⟨B2, 0, none⟩ = some (.int .i64 64)) :
    SeqStopsK Fence.wide n Try.prog 103 #[.pointer (some ⟨B1, 0, none⟩), .pointer (some ⟨B2, 0, none⟩)] (fun x : {j : Nat // j < opn q} => #[pcv a q x.val]) (Kp3 w0.heap.size B1 B2) (fun ys => Orc ys ∧ ys.length = opn q) (fun pre => Orc pre) (opn q) w := fun l J Jx W hW hA _ hY h0 =>
  chk_in n hn l B1 B2 w0 hq0 hq hca J Jx hY W ((hW.cell (p := ⟨B1, 0, none⟩) (lt_of_cell h1)).trans h1) ((hW.cell (p := ⟨B2, 0, none⟩) (lt_of_cell h2)).trans h2) h0 (fun pre W1 m hj => hA pre W1 _ none hj ⟨rfl, rfl, rfl, Nat.le_refl _, fun _ _ _ => rfl⟩ (fun r e => by simp at e))
end Go.Proofs.Ytaggciimacanbaa.Fo
