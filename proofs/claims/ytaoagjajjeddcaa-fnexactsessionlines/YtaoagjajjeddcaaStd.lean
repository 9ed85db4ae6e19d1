import Derived.Test.YtaoagjajjeddcaaStc
import Derived.Deep.Slices
import Derived.SizedLaws
import Derived.Carry
namespace Go.Proofs.Ytaoagjajjeddcaa.Fo
open Go.ChangeShapes Go.WideShapes Go.ChangeAt Go.RowKit
set_option linter.unusedVariables false
set_option maxRecDepth 100000

set_option maxHeartbeats 8000000 in
theorem law_stop {k f l : Int} {s : ByteArray} (w : World) (hs' : (s.size : Int) ≤ 9223372036854775807) :
    Calls Try.prog 3 #[.agg #[.int .i64 k, .int .i64 f, .int .i64 l, .string s]] w fun e w' => e = .returned (.bool true) ∧ Kb 0 w w' := by
  obtain ⟨w0, hw0⟩ : ∃ w0, w0 = w.alloc (.cells #[.int .i64 k, .int .i64 f, .int .i64 l, .string s] 23) := ⟨_, rfl⟩
  have b0 : w0.heap[w.heap.size]? = some (.cells #[.int .i64 k, .int .i64 f, .int .i64 l, .string s] 23 (0, 0)) := by rw [hw0]; exact alloc_new _ _ _
  have k0 : Kb 0 w w0 := by rw [hw0]; exact kb_alloc _ _ _
  have c0 : w0.cell? ⟨w.heap.size, 0, none⟩ = some (.int .i64 k) := cell_of b0 rfl
  have c1 : w0.cell? ⟨w.heap.size, 1, none⟩ = some (.int .i64 f) := cell_of b0 rfl
  have c2 : w0.cell? ⟨w.heap.size, 2, none⟩ = some (.int .i64 l) := cell_of b0 rfl
  have c3 : w0.cell? ⟨w.heap.size, 3, none⟩ = some (.string s) := cell_of b0 rfl
  have HS := sz_stop (k := k) (f := f) (l := l) (L := 1048576) w0 hs' (by omega) (by omega)
  have HW : Hid (w0 = _) := hw0
  have HK : Hid (Kb 0 w w0) := k0
  clear hw0 b0 k0
  by_cases hb : (1048576 : Int) - (s.size : Int) < 0
  · rw [if_pos hb] at HS
    clear hb
    go_enter Try.func3, Try.ntmps3
    go_upto_region 1 with fail
    rw [← (show w0 = _ from HW)]
    go_wp2_with fail
    refine HS.mono ?_
    rintro e w1 ⟨rfl, k1⟩
    have HF : Hid (Kb 0 w w1) := (show Kb 0 w w0 from HK).trans k1
    clear HS k1 HK
    go_wp2_with fail
    go_ret
    exact ⟨rfl, HF⟩
  rw [if_neg hb] at HS
  obtain ⟨m, hm⟩ : ∃ m : Int, m = 1048576 - (s.size : Int) := ⟨_, rfl⟩
  rw [← hm] at HS hb
  have HT : Hid (∀ W, Calls Try.prog 8 #[.agg #[.int .i64 k, .int .i64 f, .int .i64 l, .string s]] W fun e w' => e = .returned (.agg #[.int .i64 k, .int .i64 f, .int .i64 l, .string s]) ∧ Kb 0 W w') := (fun W => to_stop W : ∀ W, _)
  have HSP : Hid (∀ W, Calls Try.prog 7 #[.agg #[.int .i64 k, .int .i64 f, .int .i64 l, .string s]] W fun e w' => e = .returned (.bool (dc (StP k f l s.size))) ∧ Kb 0 W w') := (fun W => sp_stop W hs' : ∀ W, _)
  have HIM : Hid (∀ W, Calls Try.prog 9 #[.agg #[.int .i64 k, .int .i64 f, .int .i64 l, .string s]] W fun e w' => e = .returned (.bool (dc (StP k f l s.size))) ∧ Kb 0 W w') := (fun W => im_stop W hs' : ∀ W, _)
  generalize dc (StP k f l s.size) = ans at HSP HIM
  have hans : (ans != ans) = false := by simp
  clear hm
  go_enter Try.func3, Try.ntmps3
  go_upto_region 1 with fail
  rw [← (show w0 = _ from HW)]
  clear HW
  go_wp2_with fail
  refine HS.mono ?_
  rintro e w1 ⟨rfl, k1⟩
  have d0 := k1.cell c0
  have d1 := k1.cell c1
  have d2 := k1.cell c2
  have d3 := k1.cell c3
  have HK1 : Hid (Kb 0 w w1) := (show Kb 0 w w0 from HK).trans k1
  have HT1 := (show ∀ W, _ from HT) w1
  clear HS k1 HK c0 c1 c2 c3
  go_wp2_with fail
  refine HT1.mono ?_
  rintro e w2 ⟨rfl, k2⟩
  have c0 := k2.cell d0
  have c1 := k2.cell d1
  have c2 := k2.cell d2
  have c3 := k2.cell d3
  have HK2 : Hid (Kb 0 w w2) := (show Kb 0 w w1 from HK1).trans k2
  have HS2 := (show ∀ W, _ from HSP) w2
  clear HT1 k2 HK1 d0 d1 d2 d3 HSP
  go_wp2_with fail
  refine HS2.mono ?_
  rintro e w3 ⟨rfl, k3⟩
  have d0 := k3.cell c0
  have d1 := k3.cell c1
  have d2 := k3.cell c2
  have d3 := k3.cell c3
  have HK3 : Hid (Kb 0 w w3) := (show Kb 0 w w2 from HK2).trans k3
  have HT3 := (show ∀ W, _ from HT) w3
  clear HS2 k3 HK2 c0 c1 c2 c3 HT
  go_wp2_with fail
  refine HT3.mono ?_
  rintro e w4 ⟨rfl, k4⟩
  have HK4 : Hid (Kb 0 w w4) := (show Kb 0 w w3 from HK3).trans k4
  have HI4 := (show ∀ W, _ from HIM) w4
  clear HT3 k4 HK3 d0 d1 d2 d3 HIM
  go_wp2_with fail
  refine HI4.mono ?_
  rintro e w5 ⟨rfl, k5⟩
  have HF : Hid (Kb 0 w w5) := (show Kb 0 w w4 from HK4).trans k5
  clear HI4 k5 HK4
  go_wp2_with fail
  go_ret
  exact ⟨rfl, HF⟩
theorem cells2 : Try.prog.cellsOf 2 = 1 := by kernel_rfl
theorem cells3 : Try.prog.cellsOf 3 = 1 := by kernel_rfl
theorem cells4 : Try.prog.cellsOf 4 = 1 := by kernel_rfl
theorem cellsS : Try.prog.cellsOf 9 = 1 := by kernel_rfl
theorem cellsLS : Try.prog.cellsOf 23 = 4 := by kernel_rfl
theorem laidOut : laidOutB Try.prog = true := by kernel_rfl
theorem rStop : Try.prog.readableRec 23 = true ∧ 23 < Try.prog.types.size := ⟨by kernel_rfl, of_decide_eq_true (by kernel_rfl)⟩
theorem stop_stays {H : Type} {enc : TypeId × Value → H} {W W' : World} {v : Value} {d : DataW H} {p : List MemPlace} (h : DataW.Trod enc Try.prog W 0 (fun _ => true) true 23 v d p) (hlt : ∀ x ∈ p, x.block < W.heap.size) (hg : Kb 0 W W') : DataW.Trod enc Try.prog W' 0 (fun b => decide (b < W.heap.size)) true 23 v d p := by
  obtain ⟨fuel, hf⟩ := h
  refine ⟨fuel, DataW.trod_stays (kids_book laidOut rStop.1) (book_sized rStop.1) (fun h => by cases h) ⟨rStop.2, book_self 23⟩ hf (fun x hx => ?_) (fun x hx => by simpa using hlt x hx)⟩
  have hb := hlt x hx
  cases x with
  | cell b o => exact World.cell?_of_block (w := W) (hg.block b (Nat.zero_le _) hb)
  | map b => exact hg.block b (Nat.zero_le _) hb
theorem read_stop {H : Type} {enc : TypeId × Value → H} {w : World} {base : Nat} {sp : Nat → Bool} {held : Bool} {cs : Array Value} {d : DataW H} {p : List MemPlace} (hcz : cs.size = 4) (h : DataW.Trod enc Try.prog w base sp held 23 (.agg cs) d p) :
    ∃ (k f l : Int) (s : ByteArray), (Value.agg cs) = .agg #[.int .i64 k, .int .i64 f, .int .i64 l, .string s] ∧ (s.size : Int) ≤ 9223372036854775807 := by
  obtain ⟨fuel, hf⟩ := h
  obtain ⟨xs, n, _, hx, hl, hxl, hfi⟩ := DataW.trod_struct Try.underlying23 hf
  obtain ⟨l⟩ := cs
  match l, hcz with
  | [c0, c1, c2, c3], _ =>
    match xs, hxl with
    | [y0, y1, y2, y3], _ =>
      have t0 := hfi 0 _ rfl
      have t1 := hfi 1 _ rfl
      have t2 := hfi 2 _ rfl
      have t3 := hfi 3 _ rfl
      simp [Value.cells, cells3, cellsS] at t0 t1 t2 t3
      obtain ⟨z0, e0, _⟩ := DataW.trod_int Try.underlying3 t0
      obtain ⟨z1, e1, _⟩ := DataW.trod_int Try.underlying3 t1
      obtain ⟨z2, e2, _⟩ := DataW.trod_int Try.underlying3 t2
      obtain ⟨z3, e3, _, g3⟩ := DataW.trod_string Try.underlying9 t3
      simp only [List.cons.injEq, and_true] at e0 e1 e2 e3
      subst e0 e1 e2 e3
      exact ⟨z0, z1, z2, z3, rfl, by unfold maxLen at g3; omega⟩
end Go.Proofs.Ytaoagjajjeddcaa.Fo
