import Derived.Test.YtfpidccjcemcjaaVao
import Derived.Shelf.Strconv.Clone
namespace Go.Proofs.Ytfpidccjcemcjaa
open Go.ChangeShapes Go.WideShapes Go.ChangeAt Go.RowKit
set_option linter.unusedVariables false
set_option maxRecDepth 100000
open Go.Shelf
def renC : Go.Shelf.Ren := ⟨fun | 316 => 78 | n => n, fun | 9 => 9 | 3 => 3 | 4 => 4 | 37 => 104 | 0 => 0 | 127 => 107 | 5 => 5 | n => n, fun | n => n⟩
theorem laysC : Go.Proofs.LaysM.n316 Try.prog renC := {
  mixed := by kernel_rfl
  f316 := Try.func78.trans (congrArg some (by kernel_rfl))
  t0 := Try.underlying0
  a0 := Try.isAgg0
  z0 := Try.sizeOf0
  v0 := Try.zeroValue0
  t3 := Try.underlying3
  a3 := Try.isAgg3
  z3 := Try.sizeOf3
  v3 := Try.zeroValue3
  t4 := Try.underlying4
  a4 := Try.isAgg4
  z4 := Try.sizeOf4
  v4 := Try.zeroValue4
  t9 := Try.underlying9
  a9 := Try.isAgg9
  z9 := Try.sizeOf9
  v9 := Try.zeroValue9
  t37 := Try.underlying104
  a37 := Try.isAgg104
  z37 := Try.sizeOf104
  v37 := Try.zeroValue104
  t127 := Try.underlying107
  a127 := Try.isAgg107
  z127 := Try.sizeOf107
  v127 := Try.zeroValue107
  t5 := Try.underlying5
  a5 := Try.isAgg5
  z5 := Try.sizeOf5
  v5 := Try.zeroValue5
  i0 := by kernel_rfl
  i3 := by kernel_rfl
  i4 := by kernel_rfl
  i5 := by kernel_rfl
  i9 := by kernel_rfl
  i37 := by kernel_rfl
  i127 := by kernel_rfl }
open Go.RowKit in
theorem lite_clone (s : ByteArray) (w : World) (hlim : s.size ≤ 281474976710656) :
    Calls Try.prog 78 #[.string s] w fun e w' => e = .returned (.string s) ∧ Below w.heap.size w w' := Any.stringslite_Clone laysC s w hlim
theorem lt_of_cell {w : World} {b j : Nat} {v : Value} (h : w.cell? ⟨b, j, none⟩ = some v) : b < w.heap.size := by
  unfold World.cell? at h
  cases hh : w.heap[b]? with
  | none => simp [hh] at h
  | some o => exact (Array.getElem?_eq_some_iff.1 hh).1
/-- what a call keeps -/
structure Kq (a w : World) : Prop where
  os : w.os = a.os
  output : w.output = a.output
  size : a.heap.size ≤ w.heap.size
  block : ∀ i, i < a.heap.size → w.heap[i]? = a.heap[i]?
theorem Kq.refl (a : World) : Kq a a := ⟨rfl, rfl, Nat.le_refl _, fun _ _ => rfl⟩
theorem Kq.trans {a b c : World} (h : Kq a b) (k : Kq b c) : Kq a c := ⟨k.os.trans h.os, k.output.trans h.output, Nat.le_trans h.size k.size, fun i hi => (k.block i (Nat.lt_of_lt_of_le hi h.size)).trans (h.block i hi)⟩
theorem Kq.of_grown {a w : World} (h : Grown a w) : Kq a w := ⟨h.1.1, h.1.2.1, h.2.2, fun i hi => grown_block h hi⟩
theorem Kq.of_below {a w : World} (h : Below a.heap.size a w) : Kq a w := ⟨h.os, h.output, h.size, h.block⟩
theorem Kq.drew {a w : World} (h : Kq a w) : Kq a w.drew := ⟨h.os, h.output, h.size, h.block⟩
theorem Kq.cell {a w : World} (h : Kq a w) {b j : Nat} {v : Value} (hc : a.cell? ⟨b, j, none⟩ = some v) : w.cell? ⟨b, j, none⟩ = some v :=
  (World.cell?_of_block (h.block b (lt_of_cell hc))).trans hc
theorem Kq.kept {a w : World} (h : Kq a w) : a.keptBut w (fun _ => False) := by
  refine ⟨h.os, h.output, fun i hi => ?_⟩
  rw [h.block i hi]
  generalize a.heap[i]? = o
  cases o with
  | none => rfl
  | some o => cases o <;> first | exact ⟨rfl, rfl, rfl, fun _ _ => rfl⟩ | exact .inr ⟨rfl, rfl⟩ | rfl
theorem im_clone (s : ByteArray) (h : s.size ≤ 281474976710656) (w : World) : Calls Try.prog 61 #[.string s] w fun e w' => e = .returned (.string s) ∧ Below w.heap.size w w' := by
  have hc := lite_clone s w h
  clear h
  go_enter Try.func61, Try.ntmps61
  go_wp2_with fail
  refine hc.mono ?_
  rintro e w1 ⟨rfl, h1⟩
  clear hc
  go_wp2_with fail
  go_ret
  exact ⟨rfl, h1⟩

theorem Vc.kq {a w : World} {B : Nat} {v : Vv} (h : Vc a B v) (g : Kq a w) : Vc w B v := ⟨g.cell h.c0, g.cell h.c1, g.cell h.c2, g.cell h.c3, g.cell h.c4⟩
theorem Kq.frozen {a w : World} (h : Kq a w) {b j : Nat} (hb : b < a.heap.size) : w.frozen? ⟨b, j, none⟩ = a.frozen? ⟨b, j, none⟩ := by
  unfold World.frozen?
  rw [h.block b hb]
/-- a float that is a whole number in the range -/
def wh (g : Nat) (z : Int) : Prop := FloatKind.f64.format.order g g = some .eq ∧ FloatKind.f64.format.order g 4890909195324358656 = some .lt ∧ (FloatKind.f64.format.order g 14114281232179134464 = some .gt ∨ FloatKind.f64.format.order g 14114281232179134464 = some .eq) ∧ (FloatKind.f64.format.order g (Flt.floorW g) == some .eq) = true ∧ floatToIntVal .f64 g .i64 = some z
theorem im_nan_t (x : Nat) (hn : FloatKind.f64.format.order x x = none) (w : World) : Calls Try.prog 76 #[.float .f64 x] w fun e w' => e = .returned (.bool true) ∧ w' = w := by
  go_enter Try.func76, Try.ntmps76
  go_wp2_with fail
  go_ret
  exact ⟨rfl, rfl⟩
theorem im_nan_f (x : Nat) (hn : FloatKind.f64.format.order x x = some .eq) (w : World) : Calls Try.prog 76 #[.float .f64 x] w fun e w' => e = .returned (.bool false) ∧ w' = w := by
  go_enter Try.func76, Try.ntmps76
  go_wp2_with fail
  go_ret
  exact ⟨rfl, rfl⟩
set_option maxHeartbeats 2000000 in
theorem im_toint_w (g : Nat) (z : Int) (h : wh g z) (w : World) : Calls Try.prog 77 #[.float .f64 g] w fun e w' => e = .returned (.agg #[.int .i64 0, .int .i64 z]) ∧ Grown w w' := by
  obtain ⟨hn, h1, h2, hb, hz⟩ := h
  have hc := conv_run hz
  clear hz
  have hb2 : (FloatKind.f64.format.order g (Flt.floorW g) != some .eq) = false := by simp only [bne, hb]; rfl
  clear hb
  rcases h2 with h2 | h2
  all_goals
    go_enter Try.func77, Try.ntmps77
    go_wp2_with (first
      | (go_at_call 76; refine (im_nan_f g hn _).mono ?_; rintro e w' ⟨rfl, rfl⟩)
      | (go_at_call 84; refine (math_floor g _ hn).mono ?_; rintro e w' ⟨rfl, rfl⟩))
    refine bodyPost_ret (by simp [results, Try.results77, go_sem]; rfl) rfl ?_
    exact ⟨rfl, by go_grown⟩
set_option maxHeartbeats 2000000 in
theorem im_toint_n (g : Nat) (hg : g < 18446744073709551616) (hn : FloatKind.f64.format.order g g = some .eq) (h : ∀ z, ¬ wh g z) : ∃ c : Int, (c == 0) = false ∧ ∀ w : World, Calls Try.prog 77 #[.float .f64 g] w fun e w' => e = .returned (.agg #[.int .i64 c, .int .i64 0]) ∧ Grown w w' := by
  rcases Flt.range_facts g hg with h0 | ⟨_, ⟨h1 | h1, h2⟩ | ⟨h1, h2⟩ | ⟨h1, h2, z, y, hz, hy⟩⟩
  · rw [hn] at h0; cases h0
  · clear h
    refine ⟨3, rfl, fun w => ?_⟩
    go_enter Try.func77, Try.ntmps77
    go_wp2_with (first
      | (go_at_call 76; refine (im_nan_f g hn _).mono ?_; rintro e w' ⟨rfl, rfl⟩))
    refine bodyPost_ret (by simp [results, Try.results77, go_sem]; rfl) rfl ?_
    exact ⟨rfl, by go_grown⟩
  · clear h
    refine ⟨3, rfl, fun w => ?_⟩
    go_enter Try.func77, Try.ntmps77
    go_wp2_with (first
      | (go_at_call 76; refine (im_nan_f g hn _).mono ?_; rintro e w' ⟨rfl, rfl⟩))
    refine bodyPost_ret (by simp [results, Try.results77, go_sem]; rfl) rfl ?_
    exact ⟨rfl, by go_grown⟩
  · clear h
    refine ⟨3, rfl, fun w => ?_⟩
    go_enter Try.func77, Try.ntmps77
    go_wp2_with (first
      | (go_at_call 76; refine (im_nan_f g hn _).mono ?_; rintro e w' ⟨rfl, rfl⟩))
    refine bodyPost_ret (by simp [results, Try.results77, go_sem]; rfl) rfl ?_
    exact ⟨rfl, by go_grown⟩
  · have hb : (FloatKind.f64.format.order g (Flt.floorW g) == some .eq) = false := by
      cases q : (FloatKind.f64.format.order g (Flt.floorW g) == some .eq)
      · rfl
      · exact absurd ⟨hn, h1, h2, q, hz⟩ (h z)
    have hb2 : (FloatKind.f64.format.order g (Flt.floorW g) != some .eq) = true := by simp only [bne, hb]; rfl
    clear h hz hy hb
    refine ⟨2, rfl, fun w => ?_⟩
    rcases h2 with h2 | h2
    all_goals
      go_enter Try.func77, Try.ntmps77
      go_wp2_with (first
        | (go_at_call 76; refine (im_nan_f g hn _).mono ?_; rintro e w' ⟨rfl, rfl⟩)
        | (go_at_call 84; refine (math_floor g _ hn).mono ?_; rintro e w' ⟨rfl, rfl⟩))
      refine bodyPost_ret (by simp [results, Try.results77, go_sem]; rfl) rfl ?_
      exact ⟨rfl, by go_grown⟩
end Go.Proofs.Ytfpidccjcemcjaa
