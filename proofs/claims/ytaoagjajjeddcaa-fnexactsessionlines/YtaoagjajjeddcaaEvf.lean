import Derived.Test.YtaoagjajjeddcaaEve
namespace Go.Proofs.Ytaoagjajjeddcaa.Fo
open Go.ChangeShapes Go.WideShapes Go.ChangeAt Go.RowKit
set_option linter.unusedVariables false
set_option maxRecDepth 100000
set_option maxHeartbeats 16000000 in
theorem im_ev_no {op n m k f l : Int} {x y z : ByteArray} {pk : Option Addr} {q ck : Nat} (w : World) (hx : (x.size : Int) ≤ 9223372036854775807) (hy : (y.size : Int) ≤ 9223372036854775807) (hz : (z.size : Int) ≤ 9223372036854775807) (hq : (q : Int) ≤ 9223372036854775807) (ho : ¬ (1 ≤ op ∧ op ≤ 21)) :
    Calls Try.prog 13 #[.agg #[.int .i64 op, .int .i64 n, .int .i64 m, .string x, .string y, .int .i64 k, .int .i64 f, .int .i64 l, .string z, .slice pk q ck]] w fun e w' => e = .returned (.bool false) ∧ Kb 0 w w' := by
  obtain ⟨w0, hw0⟩ : ∃ w0, w0 = w.alloc (.cells #[.int .i64 op, .int .i64 n, .int .i64 m, .string x, .string y, .int .i64 k, .int .i64 f, .int .i64 l, .string z, .slice pk q ck] 35) := ⟨_, rfl⟩
  have bw0 : w0.heap[w.heap.size]? = some (.cells #[.int .i64 op, .int .i64 n, .int .i64 m, .string x, .string y, .int .i64 k, .int .i64 f, .int .i64 l, .string z, .slice pk q ck] 35 (0, 0)) := by rw [hw0]; exact alloc_new _ _ _
  have kw0 : Kb 0 w w0 := by rw [hw0]; exact kb_alloc _ _ _
  have c0 : w0.cell? ⟨w.heap.size, 0, none⟩ = some (.int .i64 op) := cell_of bw0 rfl
  have c1 : w0.cell? ⟨w.heap.size, 1, none⟩ = some (.int .i64 n) := cell_of bw0 rfl
  have c2 : w0.cell? ⟨w.heap.size, 2, none⟩ = some (.int .i64 m) := cell_of bw0 rfl
  have c3 : w0.cell? ⟨w.heap.size, 3, none⟩ = some (.string x) := cell_of bw0 rfl
  have c4 : w0.cell? ⟨w.heap.size, 4, none⟩ = some (.string y) := cell_of bw0 rfl
  have c5 : w0.cell? ⟨w.heap.size, 5, none⟩ = some (.int .i64 k) := cell_of bw0 rfl
  have c6 : w0.cell? ⟨w.heap.size, 6, none⟩ = some (.int .i64 f) := cell_of bw0 rfl
  have c7 : w0.cell? ⟨w.heap.size, 7, none⟩ = some (.int .i64 l) := cell_of bw0 rfl
  have c8 : w0.cell? ⟨w.heap.size, 8, none⟩ = some (.string z) := cell_of bw0 rfl
  have c9 : w0.cell? ⟨w.heap.size, 9, none⟩ = some (.slice pk q ck) := cell_of bw0 rfl
  have HB : Hid (w0 = _) := hw0
  have HK : Hid (Kb 0 w w0) := kw0
  clear hw0 bw0 kw0
  have HR := im_row_no w0 ho
  clear ho
  go_enter Try.func13, Try.ntmps13
  go_upto_region 1 with fail
  rw [← (show w0 = _ from HB)]
  go_wp2_with fail
  refine HR.mono ?_
  rintro e w1 ⟨rfl, k1⟩
  have HF : Hid (∀ o, Kb 0 w (w1.alloc o)) := (fun o => ((show Kb 0 w w0 from HK).trans k1).trans (kb_alloc _ _ _) : ∀ o, _)
  clear HR k1 HK HB c0 c1 c2 c3 c4 c5 c6 c7 c8 c9
  go_wp2_with fail
  go_ret
  exact ⟨rfl, HF _⟩
theorem im_event {op n m k f l : Int} {x y z : ByteArray} {pk : Option Addr} {q ck : Nat} (w : World) (hx : (x.size : Int) ≤ 9223372036854775807) (hy : (y.size : Int) ≤ 9223372036854775807) (hz : (z.size : Int) ≤ 9223372036854775807) (hq : (q : Int) ≤ 9223372036854775807) :
    Calls Try.prog 13 #[.agg #[.int .i64 op, .int .i64 n, .int .i64 m, .string x, .string y, .int .i64 k, .int .i64 f, .int .i64 l, .string z, .slice pk q ck]] w fun e w' => e = .returned (.bool (dc (EvP op n m x.size y.size q k f l z.size))) ∧ Kb 0 w w' := by
  by_cases ho : 1 ≤ op ∧ op ≤ 21
  rotate_left
  · rw [dc_f (fun h => ho h.1)]
    exact im_ev_no w hx hy hz hq ho
  have h := im_ev_all (n := n) (m := m) (k := k) (f := f) (l := l) (pk := pk) (ck := ck) w hx hy hz hq (fun W => im_row W ho.1 ho.2)
  refine h.mono fun e w' ⟨h1, h2⟩ => ⟨?_, h2⟩
  rw [h1]
  congr 3
  refine propext ⟨fun ⟨q0, q1, q2, q3, q4, q5⟩ => ⟨ho, q0, q1, q2, q3, q4, fun e => q5.1 (by unfold sbt; rw [if_pos e]), fun e => q5.2 (by unfold sbt; rw [if_neg e])⟩, fun ⟨_, q0, q1, q2, q3, q4, q5⟩ => ⟨q0, q1, q2, q3, q4, fun e => q5.1 ?_, fun e => q5.2 ?_⟩⟩
  · by_cases h6 : op = 6
    · exact h6
    · unfold sbt at e; rw [if_neg h6] at e; cases e
  · intro h6
    unfold sbt at e; rw [if_pos h6] at e; cases e
end Go.Proofs.Ytaoagjajjeddcaa.Fo
