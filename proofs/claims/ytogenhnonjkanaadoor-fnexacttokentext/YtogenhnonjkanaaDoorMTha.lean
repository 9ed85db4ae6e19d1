import Derived.Test.YtogenhnonjkanaaDoorMTgb
import Derived.Test.YtogenhnonjkanaaDoorMTud
namespace Go.Proofs.YtogenhnonjkanaaDoor
open Go.ChangeShapes Go.WideShapes Go.ChangeAt Go.RowKit
set_option linter.unusedVariables false
/-- the tables and errors that the program's texts read -/
structure Gt (w : World) : Prop where
  gd : Gd w
  tab : Fm.Tab w
  pow : Lib.TabIs Tryd.prog w "internal/strconv.uint64pow10" .u64 Lib.pow10Tab
theorem g10 : Tryd.prog.globalNamed "internal/strconv.uint64pow10" = some 3 := by kernel_rfl
theorem Gt.kb {w W : World} (h : Gt w) (hk : Kb w.heap.size w W) : Gt W := by
  have hs := h.gd.size
  refine ⟨h.gd.kb hs hk, ⟨?_, fun j hj => ?_⟩, ?_⟩
  · have := hk.size; omega
  · rw [World.cell?_of_block (hk.block 5 (by omega) (by omega))]; exact h.tab.at_ j hj
  · have h1 := h.pow
    unfold Lib.TabIs World.var? at h1 ⊢
    rw [g10] at h1 ⊢
    simp only [Option.bind_some] at h1 ⊢
    rw [hk.block 3 (by omega) (by omega)]
    exact h1
/-- a token's text, told by both sides -/
def TtC (k f t l n : Int) (x R : ByteArray) : Prop :=
  (∀ w, Calls Tryd.prog 11 #[.agg #[.int .i64 k, .int .i64 f, .int .i64 t, .int .i64 l, .int .i64 n, .string x]] w fun e w' => e = .returned (.string R) ∧ Below w.heap.size w w') ∧
  (∀ w, Gt w → Calls Tryd.prog 13 #[.agg #[.int .i64 k, .int .i64 f, .int .i64 t, .int .i64 l, .int .i64 n, .string x]] w fun e w' => e = .returned (.string R) ∧ Rd.Kept w w')
def tb (k f t l n : Int) (x : ByteArray) : Obj := .cells #[.int .i64 k, .int .i64 f, .int .i64 t, .int .i64 l, .int .i64 n, .string x] 33
theorem below_new {w W : World} {x : Obj} (h : Below (w.alloc x).heap.size (w.alloc x) W) : Below w.heap.size w W := ((Below.refl _ w).alloc (Nat.le_refl _) _).trans (h.mono (by simp))
theorem kept_via {w W : World} {x : Obj} (h : Rd.Kept (w.alloc x) W) : Rd.Kept w W := Kb.kept (B := w.heap.size) ((Kb.new _ _ _).trans (Kb.of_kept h)) (Nat.le_refl _)
theorem kept_below {w W : World} {x : Obj} (h : Below (w.alloc x).heap.size (w.alloc x) W) : Rd.Kept w W := Kb.kept (B := w.heap.size) (Kb.of_below (below_new h) (Nat.le_refl _)) (Nat.le_refl _)
set_option maxRecDepth 100000 in
set_option maxHeartbeats 1000000 in
theorem spec_tt1 (kd : Int) (sf : Nat) (hk : (kd = 1 ∧ sf = 20) ∨ (kd = 3 ∧ sf = 22)) (f t l n : Int) (x : ByteArray) (z : Bool) (h : ∀ w, Calls Tryd.prog sf #[.string x] w fun e w' => e = .returned (.bool z) ∧ Below w.heap.size w w') (w : World) :
    Calls Tryd.prog 11 #[.agg #[.int .i64 kd, .int .i64 f, .int .i64 t, .int .i64 l, .int .i64 n, .string x]] w fun e w' => e = .returned (.string (if z = true then x else ⟨#[]⟩)) ∧ Below w.heap.size w w' := by
  have h1 := h (w.alloc (tb kd f t l n x))
  unfold tb at h1
  have HB : Hid (∀ W, Below (w.alloc (.cells #[.int .i64 kd, .int .i64 f, .int .i64 t, .int .i64 l, .int .i64 n, .string x] 33)).heap.size (w.alloc (.cells #[.int .i64 kd, .int .i64 f, .int .i64 t, .int .i64 l, .int .i64 n, .string x] 33)) W → Below w.heap.size w W ∧ W.cell? ⟨w.heap.size, 5, none⟩ = some (.string x)) :=
    (fun W hb => ⟨below_new hb, by rw [World.cell?_of_block (hb.block w.heap.size (by simp))]; simp⟩ : ∀ W, _)
  rcases hk with ⟨rfl, rfl⟩ | ⟨rfl, rfl⟩
  all_goals
    cases z
    all_goals
      clear h
      go_enter Tryd.func11, Tryd.ntmps11
      go_wp2_with fail
      refine h1.mono ?_
      rintro e w1 ⟨rfl, hb1⟩
      obtain ⟨hb2, hc5⟩ := (show ∀ W, _ → _ from HB) w1 hb1
      have HB2 : Hid (Below w.heap.size w w1) := hb2
      clear h1 hb1 hb2 HB
      go_wp2_with fail
      go_ret
      exact ⟨rfl, HB2⟩
set_option maxRecDepth 100000 in
set_option maxHeartbeats 1000000 in
theorem spec_tt2 (f t l n : Int) (x R : ByteArray) (h : ∀ w, Calls Tryd.prog 21 #[.int .i64 n] w fun e w' => e = .returned (.string R) ∧ Below w.heap.size w w') (w : World) :
    Calls Tryd.prog 11 #[.agg #[.int .i64 2, .int .i64 f, .int .i64 t, .int .i64 l, .int .i64 n, .string x]] w fun e w' => e = .returned (.string R) ∧ Below w.heap.size w w' := by
  have h1 := fun o => h (w.alloc o)
  clear h
  go_enter Tryd.func11, Tryd.ntmps11
  go_wp2_with fail
  refine (h1 _).mono ?_
  rintro e w1 ⟨rfl, hb1⟩
  have HB2 : Hid (Below w.heap.size w w1) := below_new hb1
  clear h1 hb1
  go_wp2_with fail
  go_ret
  exact ⟨rfl, HB2⟩
set_option maxRecDepth 100000 in
set_option maxHeartbeats 1000000 in
theorem spec_tt4 (f t l n : Int) (x R : ByteArray) (h : ∀ w, Calls Tryd.prog 23 #[.string x] w fun e w' => e = .returned (.string R) ∧ Below w.heap.size w w') (w : World) :
    Calls Tryd.prog 11 #[.agg #[.int .i64 4, .int .i64 f, .int .i64 t, .int .i64 l, .int .i64 n, .string x]] w fun e w' => e = .returned (.string R) ∧ Below w.heap.size w w' := by
  have h1 := fun o => h (w.alloc o)
  clear h
  go_enter Tryd.func11, Tryd.ntmps11
  go_wp2_with fail
  refine (h1 _).mono ?_
  rintro e w1 ⟨rfl, hb1⟩
  have HB2 : Hid (Below w.heap.size w w1) := below_new hb1
  clear h1 hb1
  go_wp2_with fail
  go_ret
  exact ⟨rfl, HB2⟩
set_option maxRecDepth 100000 in
set_option maxHeartbeats 1000000 in
theorem spec_tt7 (f t l n : Int) (x : ByteArray) (w : World) :
    Calls Tryd.prog 11 #[.agg #[.int .i64 7, .int .i64 f, .int .i64 t, .int .i64 l, .int .i64 n, .string x]] w fun e w' => e = .returned (.string ⟨#[10]⟩) ∧ Below w.heap.size w w' := by
  go_enter Tryd.func11, Tryd.ntmps11
  go_wp2_with fail
  go_ret
  exact ⟨rfl, (Below.refl _ w).alloc (Nat.le_refl _) _⟩
set_option maxRecDepth 100000 in
set_option maxHeartbeats 1000000 in
theorem spec_tto (k f t l n : Int) (x : ByteArray) (h1 : k ≠ 1) (h2 : k ≠ 2) (h3 : k ≠ 3) (h4 : k ≠ 4) (h7 : k ≠ 7) (w : World) :
    Calls Tryd.prog 11 #[.agg #[.int .i64 k, .int .i64 f, .int .i64 t, .int .i64 l, .int .i64 n, .string x]] w fun e w' => e = .returned (.string (spl k)) ∧ Below w.heap.size w w' := by
  have hs := fun o => spec_text k h7 (w.alloc o)
  have n1 : (k == 1) = false := by simpa using h1
  have n2 : (k == 2) = false := by simpa using h2
  have n3 : (k == 3) = false := by simpa using h3
  have n4 : (k == 4) = false := by simpa using h4
  have n7 : (k == 7) = false := by simpa using h7
  generalize spl k = R at *
  clear h1 h2 h3 h4 h7
  go_enter Tryd.func11, Tryd.ntmps11
  go_wp2_with fail
  refine (hs _).mono ?_
  rintro e w1 ⟨rfl, hb1⟩
  have HB2 : Hid (Below w.heap.size w w1) := below_new hb1
  clear hs hb1
  go_wp2_with fail
  go_ret
  exact ⟨rfl, HB2⟩
set_option maxRecDepth 100000 in
set_option maxHeartbeats 1000000 in
theorem impl_tt1 (kd : Int) (hk : kd = 1 ∨ kd = 3) (f t l n : Int) (x R : ByteArray) (h : ∀ w, Gd w → Calls Tryd.prog 25 #[.agg #[.int .i64 kd, .int .i64 f, .int .i64 t, .int .i64 l, .int .i64 n, .string x], .int .i64 40] w fun e w' => e = .returned (.string R) ∧ Rd.Kept w w') (w : World) (hg : Gt w) :
    Calls Tryd.prog 13 #[.agg #[.int .i64 kd, .int .i64 f, .int .i64 t, .int .i64 l, .int .i64 n, .string x]] w fun e w' => e = .returned (.string R) ∧ Rd.Kept w w' := by
  have h1 := fun o => h (w.alloc o) (hg.kb (Kb.new _ w o)).gd
  clear h hg
  rcases hk with rfl | rfl
  all_goals
    go_enter Tryd.func13, Tryd.ntmps13
    go_wp2_with fail
    refine (h1 _).mono ?_
    rintro e w1 ⟨rfl, hb1⟩
    have HB2 : Hid (Rd.Kept w w1) := kept_via hb1
    clear h1 hb1
    go_wp2_with fail
    go_ret
    exact ⟨rfl, HB2⟩
set_option maxRecDepth 100000 in
set_option maxHeartbeats 1000000 in
theorem impl_tt4 (f t l n : Int) (x R : ByteArray) (h : ∀ w, Calls Tryd.prog 26 #[.string x] w fun e w' => e = .returned (.string R) ∧ Below w.heap.size w w') (w : World) :
    Calls Tryd.prog 13 #[.agg #[.int .i64 4, .int .i64 f, .int .i64 t, .int .i64 l, .int .i64 n, .string x]] w fun e w' => e = .returned (.string R) ∧ Rd.Kept w w' := by
  have h1 := fun o => h (w.alloc o)
  clear h
  go_enter Tryd.func13, Tryd.ntmps13
  go_wp2_with fail
  refine (h1 _).mono ?_
  rintro e w1 ⟨rfl, hb1⟩
  have HB2 : Hid (Rd.Kept w w1) := kept_below hb1
  clear h1 hb1
  go_wp2_with fail
  go_ret
  exact ⟨rfl, HB2⟩
set_option maxRecDepth 100000 in
set_option maxHeartbeats 1000000 in
theorem impl_tt2 (f t l n : Int) (x R : ByteArray) (h0 : ¬ n < 0) (h : ∀ w, Gt w → Calls Tryd.prog 28 #[.int .i64 n, .int .i64 10] w fun e w' => e = .returned (.string R) ∧ Rd.Kept w w') (w : World) (hg : Gt w) :
    Calls Tryd.prog 13 #[.agg #[.int .i64 2, .int .i64 f, .int .i64 t, .int .i64 l, .int .i64 n, .string x]] w fun e w' => e = .returned (.string R) ∧ Rd.Kept w w' := by
  have h1 := fun o => h (w.alloc o) (hg.kb (Kb.new _ w o))
  clear h hg
  go_enter Tryd.func13, Tryd.ntmps13
  go_wp2_with fail
  refine (h1 _).mono ?_
  rintro e w1 ⟨rfl, hb1⟩
  have HB2 : Hid (Rd.Kept w w1) := kept_via hb1
  clear h1 hb1
  go_wp2_with fail
  go_ret
  exact ⟨rfl, HB2⟩
set_option maxRecDepth 100000 in
set_option maxHeartbeats 1000000 in
theorem impl_tt2n (f t l n : Int) (x R : ByteArray) (h0 : n < 0) (hR : R.size ≤ 1000) (h : ∀ w, Gt w → Calls Tryd.prog 27 #[.int .i64 n, .int .i64 16] w fun e w' => e = .returned (.string R) ∧ Rd.Kept w w') (w : World) (hg : Gt w) :
    Calls Tryd.prog 13 #[.agg #[.int .i64 2, .int .i64 f, .int .i64 t, .int .i64 l, .int .i64 n, .string x]] w fun e w' => e = .returned (.string (⟨#[48, 120]⟩ ++ R)) ∧ Rd.Kept w w' := by
  have h1 := fun o => h (w.alloc o) (hg.kb (Kb.new _ w o))
  have hsz : ¬ 9223372036854775807 < 2 + R.size := by omega
  clear h hg
  go_enter Tryd.func13, Tryd.ntmps13
  go_wp2_with fail
  refine (h1 _).mono ?_
  rintro e w1 ⟨rfl, hb1⟩
  have HB2 : Hid (Rd.Kept w w1) := kept_via hb1
  clear h1 hb1
  go_wp2_with fail
  go_ret
  exact ⟨rfl, HB2⟩
set_option maxRecDepth 100000 in
set_option maxHeartbeats 1000000 in
theorem impl_tto (k f t l n : Int) (x : ByteArray) (h1 : k ≠ 1) (h2 : k ≠ 2) (h3 : k ≠ 3) (h4 : k ≠ 4) (w : World) (hg : Gt w) :
    Calls Tryd.prog 13 #[.agg #[.int .i64 k, .int .i64 f, .int .i64 t, .int .i64 l, .int .i64 n, .string x]] w fun e w' => e = .returned (.string (spl k)) ∧ Rd.Kept w w' := by
  have hs := fun o => impl_spell k (w.alloc o) (hg.kb (Kb.new _ w o)).gd
  have n1 : (k == 1) = false := by simpa using h1
  have n2 : (k == 2) = false := by simpa using h2
  have n3 : (k == 3) = false := by simpa using h3
  have n4 : (k == 4) = false := by simpa using h4
  have HK : Hid (∀ o, Rd.Kept w (w.alloc o)) := (fun o => kept_new w o : ∀ o, Rd.Kept w (w.alloc o))
  generalize spl k = R at *
  clear h1 h2 h3 h4 hg
  go_enter Tryd.func13, Tryd.ntmps13
  go_wp2_with fail
  refine (hs _).mono ?_
  rintro e w1 ⟨rfl, hw1⟩
  rw [hw1]
  clear hs hw1
  go_wp2_with fail
  go_ret
  exact ⟨rfl, (show ∀ o, Rd.Kept w (w.alloc o) from HK) _⟩
end Go.Proofs.YtogenhnonjkanaaDoor
