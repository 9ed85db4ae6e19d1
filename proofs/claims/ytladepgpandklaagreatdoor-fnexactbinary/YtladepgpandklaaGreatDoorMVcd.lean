import Derived.Test.YtladepgpandklaaGreatDoorMFrb
import Derived.Test.YtladepgpandklaaGreatDoorMVcc
import Derived.Shelf.Strconv.Clone
import Derived.BigQuiet
import Derived.Deep.QuietTactic
import Derived.OpenVars
import Derived.Lib.LaidTab
namespace Go.Proofs.YtladepgpandklaaGreatDoor
open Go.Shelf Go.ChangeShapes Go.WideShapes Go.ChangeAt Go.RowKit
set_option linter.unusedVariables false
set_option maxRecDepth 100000
def renC : Go.Shelf.Ren := ⟨fun | 316 => 75 | n => n, fun | 9 => 9 | 3 => 3 | 4 => 4 | 37 => 62 | 0 => 0 | 127 => 84 | 5 => 5 | n => n, fun | n => n⟩
theorem laysC : Go.Proofs.LaysM.n316 Tryz.prog renC := {
  mixed := by kernel_rfl
  f316 := Tryz.func75.trans (congrArg some (by kernel_rfl))
  t0 := Tryz.underlying0
  a0 := Tryz.isAgg0
  z0 := Tryz.sizeOf0
  v0 := Tryz.zeroValue0
  t3 := Tryz.underlying3
  a3 := Tryz.isAgg3
  z3 := Tryz.sizeOf3
  v3 := Tryz.zeroValue3
  t4 := Tryz.underlying4
  a4 := Tryz.isAgg4
  z4 := Tryz.sizeOf4
  v4 := Tryz.zeroValue4
  t9 := Tryz.underlying9
  a9 := Tryz.isAgg9
  z9 := Tryz.sizeOf9
  v9 := Tryz.zeroValue9
  t37 := Tryz.underlying62
  a37 := Tryz.isAgg62
  z37 := Tryz.sizeOf62
  v37 := Tryz.zeroValue62
  t127 := Tryz.underlying84
  a127 := Tryz.isAgg84
  z127 := Tryz.sizeOf84
  v127 := Tryz.zeroValue84
  t5 := Tryz.underlying5
  a5 := Tryz.isAgg5
  z5 := Tryz.sizeOf5
  v5 := Tryz.zeroValue5
  i0 := by kernel_rfl
  i3 := by kernel_rfl
  i4 := by kernel_rfl
  i5 := by kernel_rfl
  i9 := by kernel_rfl
  i37 := by kernel_rfl
  i127 := by kernel_rfl }
open Go.RowKit in
theorem lite_clone (s : ByteArray) (w : World) (hlim : s.size ≤ 281474976710656) :
    Calls Tryz.prog 75 #[.string s] w fun e w' => e = .returned (.string s) ∧ Below w.heap.size w w' := Any.stringslite_Clone laysC s w hlim
/-- the table of powers of ten stands -/
def Pw (w : World) : Prop := Lib.TabIs Tryz.prog w "internal/strconv.uint64pow10" .u64 Lib.pow10Tab
theorem below_grow (w : World) (k : Nat) (os : Array Obj) : Below w.heap.size w (Go.Sort.grow (w.drewN k) os) :=
  ⟨rfl, rfl, rfl, by simp [Go.Sort.grow], fun j hj => by simp [Go.Sort.grow, Array.getElem?_append_left hj]⟩
set_option maxRecDepth 100000 in
set_option maxHeartbeats 4000000 in
theorem impl_fmt (n : Int) (h0 : -9223372036854775808 ≤ n) (h1 : n ≤ 9223372036854775807) (w : World) (hp : Pw w) :
    Calls Tryz.prog 70 #[.int .i64 n, .int .i64 10] w fun e w' => e = .returned (.string (itx n)) ∧ Below w.heap.size w w' := by
  have HC : Hid (Calls Tryz.prog 81 #[.int .i64 n, .int .i64 10] w fun e w' => e = .returned (.string (itx n)) ∧ Below w.heap.size w w') := by
    refine (format10 n h0 h1 w hp).mono ?_
    rintro e w' ⟨rfl, k, os, rfl⟩
    exact ⟨rfl, below_grow w k os⟩
  clear hp h0 h1
  generalize itx n = T at *
  go_enter Tryz.func70, Tryz.ntmps70
  go_wp2_with fail
  refine (show Calls Tryz.prog 81 #[.int .i64 n, .int .i64 10] w fun e w' => e = .returned (.string T) ∧ Below w.heap.size w w' from HC).mono ?_
  rintro e w2 ⟨rfl, hg⟩
  clear HC
  go_wp2_with fail
  go_ret
  exact ⟨rfl, hg⟩
set_option maxRecDepth 100000 in
set_option maxHeartbeats 4000000 in
theorem impl_itoa0 (n : Int) (h0 : -9223372036854775808 ≤ n) (h1 : n ≤ 9223372036854775807) (w : World) (hp : Pw w) :
    Calls Tryz.prog 86 #[.int .i64 n] w fun e w' => e = .returned (.string (itx n)) ∧ Below w.heap.size w w' := by
  have HC : Hid (Calls Tryz.prog 81 #[.int .i64 n, .int .i64 10] w fun e w' => e = .returned (.string (itx n)) ∧ Below w.heap.size w w') := by
    refine (format10 n h0 h1 w hp).mono ?_
    rintro e w' ⟨rfl, k, os, rfl⟩
    exact ⟨rfl, below_grow w k os⟩
  clear hp h0 h1
  generalize itx n = T at *
  go_enter Tryz.func86, Tryz.ntmps86
  go_wp2_with fail
  refine (show Calls Tryz.prog 81 #[.int .i64 n, .int .i64 10] w fun e w' => e = .returned (.string T) ∧ Below w.heap.size w w' from HC).mono ?_
  rintro e w2 ⟨rfl, hg⟩
  clear HC
  go_wp2_with fail
  go_ret
  exact ⟨rfl, hg⟩
set_option maxRecDepth 100000 in
set_option maxHeartbeats 4000000 in
theorem impl_itoa (n : Int) (h0 : -9223372036854775808 ≤ n) (h1 : n ≤ 9223372036854775807) (w : World) (hp : Pw w) :
    Calls Tryz.prog 74 #[.int .i64 n] w fun e w' => e = .returned (.string (itx n)) ∧ Below w.heap.size w w' := by
  have HC : Hid (Calls Tryz.prog 86 #[.int .i64 n] w fun e w' => e = .returned (.string (itx n)) ∧ Below w.heap.size w w') := impl_itoa0 n h0 h1 w hp
  clear hp h0 h1
  generalize itx n = T at *
  go_enter Tryz.func74, Tryz.ntmps74
  go_wp2_with fail
  refine (show Calls Tryz.prog 86 #[.int .i64 n] w fun e w' => e = .returned (.string T) ∧ Below w.heap.size w w' from HC).mono ?_
  rintro e w2 ⟨rfl, hg⟩
  clear HC
  go_wp2_with fail
  go_ret
  exact ⟨rfl, hg⟩
theorem gPow : Tryz.prog.globalNamed "internal/strconv.uint64pow10" = some 3 := by kernel_rfl
theorem pw_blk {w W : World} (h : Pw w) (e : W.heap[3]? = w.heap[3]?) : Pw W := by
  unfold Pw Lib.TabIs World.var? at h ⊢
  rw [gPow] at h ⊢
  simp only [Option.bind_some] at h ⊢
  rw [e]
  exact h
/-- what a call keeps -/
structure Kq (a w : World) : Prop where
  os : w.os = a.os
  output : w.output = a.output
  size : a.heap.size ≤ w.heap.size
  block : ∀ i, i < a.heap.size → w.heap[i]? = a.heap[i]?
theorem Kq.refl (a : World) : Kq a a := ⟨rfl, rfl, Nat.le_refl _, fun _ _ => rfl⟩
theorem Kq.trans {a b c : World} (h : Kq a b) (k : Kq b c) : Kq a c := ⟨k.os.trans h.os, k.output.trans h.output, Nat.le_trans h.size k.size, fun i hi => (k.block i (Nat.lt_of_lt_of_le hi h.size)).trans (h.block i hi)⟩
theorem Kq.of_grown {a w : World} (h : Grown a w) : Kq a w := ⟨h.1.1, h.1.2.1, h.2.2, fun i hi => grown_block h hi⟩
theorem Kq.of_below {a w : World} (h : Below a.heap.size a w) : Kq a w := ⟨h.os, h.output, h.size, h.block⟩
theorem Kq.drew {a w : World} (h : Kq a w) : Kq a w.drew := ⟨h.os, h.output, h.size, h.block⟩
theorem Kq.cell {a w : World} (h : Kq a w) {b j : Nat} {v : Value} (hc : a.cell? ⟨b, j, none⟩ = some v) : w.cell? ⟨b, j, none⟩ = some v :=
  (World.cell?_of_block (h.block b (lt_of_cell hc))).trans hc
theorem Kq.kept {a w : World} (h : Kq a w) : a.keptBut w (fun _ => False) := by
  refine ⟨h.os, h.output, fun i hi => ?_⟩
  rw [h.block i hi]
  generalize a.heap[i]? = o
  cases o with
  | none => rfl
  | some o => cases o <;> first | exact ⟨rfl, rfl, rfl, fun _ _ => rfl⟩ | exact .inr ⟨rfl, rfl⟩ | rfl
/-- the tables stand -/
structure Tb (w : World) : Prop where
  tab : Tab w
  pw : Pw w
  size : 3 < w.heap.size
theorem Tb.kq {a w : World} (h : Tb a) (k : Kq a w) : Tb w :=
  ⟨⟨Nat.lt_of_lt_of_le h.tab.lt k.size, fun j hj => k.cell (h.tab.at_ j hj)⟩, pw_blk h.pw (k.block _ h.size), Nat.lt_of_lt_of_le h.size k.size⟩
theorem im_write (n : Int) (h0 : -9223372036854775808 ≤ n) (h1 : n ≤ 9223372036854775807) (w : World) (hp : Pw w) : Calls Tryz.prog 57 #[.int .i64 n, .int .i64 10] w fun e w' => e = .returned (.string (itx n)) ∧ Below w.heap.size w w' := by
  have HC := impl_fmt n h0 h1 w hp
  clear hp h0 h1
  generalize itx n = T at *
  go_enter Tryz.func57, Tryz.ntmps57
  go_wp2_with (first | (go_at_call 69; go_in) | fail)
  refine HC.mono ?_
  rintro e w2 ⟨rfl, hg⟩
  clear HC
  go_wp2_with fail
  go_ret
  exact ⟨rfl, hg⟩
theorem im_minus (a c d : Int) (b : Bool) (w : World) : Calls Tryz.prog 73 #[.agg #[.int .i64 a, .bool b, .int .i64 c, .int .i64 d]] w fun e w' => e = .returned (.string (sgb b)) ∧ Grown w w' := by
  cases b
  all_goals
    go_enter Tryz.func73, Tryz.ntmps73
    go_wp2_with fail
    go_ret
    exact ⟨rfl, by go_grown⟩
theorem im_clone (s : ByteArray) (h : s.size ≤ 281474976710656) (w : World) : Calls Tryz.prog 59 #[.string s] w fun e w' => e = .returned (.string s) ∧ Below w.heap.size w w' := by
  have hc := lite_clone s w h
  clear h
  go_enter Tryz.func59, Tryz.ntmps59
  go_wp2_with fail
  refine hc.mono ?_
  rintro e w1 ⟨rfl, h1⟩
  clear hc
  go_wp2_with fail
  go_ret
  exact ⟨rfl, h1⟩
theorem im_bool (b : Bool) (w : World) : Calls Tryz.prog 56 #[.bool b] w fun e w' => e = .returned (.string (if b then ⟨#[116, 114, 117, 101]⟩ else ⟨#[102, 97, 108, 115, 101]⟩)) ∧ w' = w := by
  cases b
  all_goals
    go_enter Tryz.func56, Tryz.ntmps56
    go_wp2_with go_in
    go_ret
    exact ⟨rfl, rfl⟩
end Go.Proofs.YtladepgpandklaaGreatDoor
