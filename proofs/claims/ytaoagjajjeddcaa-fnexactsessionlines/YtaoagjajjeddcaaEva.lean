import Derived.Test.YtaoagjajjeddcaaStc
namespace Go.Proofs.Ytaoagjajjeddcaa.Fo
open Go.ChangeShapes Go.WideShapes Go.ChangeAt Go.RowKit
set_option linter.unusedVariables false
set_option maxRecDepth 100000

set_option maxHeartbeats 4000000 in
theorem sz_bools {pk : Option Addr} {q ck : Nat} {L : Int} (w : World) (hq : (q : Int) ≤ 9223372036854775807) (h0 : 0 ≤ L) (h1 : L ≤ 1048576) :
    Calls Try.prog 25 #[.slice pk q ck, .int .i64 L] w fun e w' => e = .returned (.int .i64 (if L - (q : Int) < 0 then -1 else L - (q : Int))) ∧ w' = w := by
  by_cases h : L - (q : Int) < 0
  · rw [if_pos h]
    go_enter Try.func25, Try.ntmps25
    go_wp2_with fail
    go_ret
    exact ⟨rfl, rfl⟩
  · rw [if_neg h]
    go_enter Try.func25, Try.ntmps25
    go_wp2_with fail
    go_ret
    exact ⟨rfl, rfl⟩
set_option maxHeartbeats 8000000 in
theorem sz_event {op n m k f l : Int} {x y z : ByteArray} {pk : Option Addr} {q ck : Nat} {L : Int} (w : World) (hx : (x.size : Int) ≤ 9223372036854775807) (hy : (y.size : Int) ≤ 9223372036854775807) (hz : (z.size : Int) ≤ 9223372036854775807) (hq : (q : Int) ≤ 9223372036854775807) (h0 : 0 ≤ L) (h1 : L ≤ 1048576) :
    Calls Try.prog 10 #[.agg #[.int .i64 op, .int .i64 n, .int .i64 m, .string x, .string y, .int .i64 k, .int .i64 f, .int .i64 l, .string z, .slice pk q ck], .int .i64 L] w fun e w' => ∃ r : Int, e = .returned (.int .i64 r) ∧ (r < 0 ∨ (0 ≤ r ∧ r = L - (x.size : Int) - (y.size : Int) - (z.size : Int) - (q : Int))) ∧ Kb 0 w w' := by
  obtain ⟨w0, hw0⟩ : ∃ w0, w0 = w.alloc (.cells #[.int .i64 op, .int .i64 n, .int .i64 m, .string x, .string y, .int .i64 k, .int .i64 f, .int .i64 l, .string z, .slice pk q ck] 31) := ⟨_, rfl⟩
  have bw0 : w0.heap[w.heap.size]? = some (.cells #[.int .i64 op, .int .i64 n, .int .i64 m, .string x, .string y, .int .i64 k, .int .i64 f, .int .i64 l, .string z, .slice pk q ck] 31 (0, 0)) := by rw [hw0]; exact alloc_new _ _ _
  have kw0 : Kb 0 w w0 := by rw [hw0]; exact kb_alloc _ _ _
  have c0 : w0.cell? ⟨w.heap.size, 0, none⟩ = some (.int .i64 op) := cell_of bw0 rfl
  have c1 : w0.cell? ⟨w.heap.size, 1, none⟩ = some (.int .i64 n) := cell_of bw0 rfl
  have c2 : w0.cell? ⟨w.heap.size, 2, none⟩ = some (.int .i64 m) := cell_of bw0 rfl
  have c3 : w0.cell? ⟨w.heap.size, 3, none⟩ = some (.string x) := cell_of bw0 rfl
  have c4 : w0.cell? ⟨w.heap.size, 4, none⟩ = some (.string y) := cell_of bw0 rfl
  have c5 : w0.cell? ⟨w.heap.size, 5, none⟩ = some (.int .i64 k) := cell_of bw0 rfl
  have c6 : w0.cell? ⟨w.heap.size, 6, none⟩ = some (.int .i64 f) := cell_of bw0 rfl
  have c7 : w0.cell? ⟨w.heap.size, 7, none⟩ = some (.int .i64 l) := cell_of bw0 rfl
  have c8 : w0.cell? ⟨w.heap.size, 8, none⟩ = some (.string z) := cell_of bw0 rfl
  have c9 : w0.cell? ⟨w.heap.size, 9, none⟩ = some (.slice pk q ck) := cell_of bw0 rfl
  have HB : Hid (w0 = _) := hw0
  have HK : Hid (Kb 0 w w0) := kw0
  clear hw0 bw0 kw0
  by_cases g1 : L - (x.size : Int) < 0
  · clear HK
    go_enter Try.func10, Try.ntmps10
    go_upto_region 1 with fail
    rw [← (show w0 = _ from HB)]
    go_wp2_with fail
    go_ret
    exact ⟨_, rfl, .inl (by omega), by rw [(show w0 = _ from HB)]; exact kb_alloc _ _ _⟩
  by_cases g2 : L - (x.size : Int) - (y.size : Int) < 0
  · clear HK
    go_enter Try.func10, Try.ntmps10
    go_upto_region 1 with fail
    rw [← (show w0 = _ from HB)]
    go_wp2_with fail
    go_ret
    exact ⟨_, rfl, .inl (by omega), by rw [(show w0 = _ from HB)]; exact kb_alloc _ _ _⟩
  have HS := sz_stop (k := k) (f := f) (l := l) (s := z) (L := L - (x.size : Int) - (y.size : Int)) w0 hz (by omega) (by omega)
  have g1' : 0 ≤ L - (x.size : Int) := by omega
  have g2' : 0 ≤ L - (x.size : Int) - (y.size : Int) := by omega
  by_cases g3 : L - (x.size : Int) - (y.size : Int) - (z.size : Int) < 0
  · rw [if_pos g3] at HS
    clear g3
    go_enter Try.func10, Try.ntmps10
    go_upto_region 1 with fail
    rw [← (show w0 = _ from HB)]
    go_wp2_with fail
    refine HS.mono ?_
    rintro e w1 ⟨rfl, k1⟩
    have HF : Hid (Kb 0 w w1) := (show Kb 0 w w0 from HK).trans k1
    clear HS k1
    go_wp2_with fail
    go_ret
    exact ⟨_, rfl, .inl (by omega), HF⟩
  rw [if_neg g3] at HS
  obtain ⟨N, hN⟩ : ∃ N : Int, N = L - (x.size : Int) - (y.size : Int) - (z.size : Int) := ⟨_, rfl⟩
  rw [← hN] at g3 HS ⊢
  have HQ : Hid (∀ W, Calls Try.prog 25 #[.slice pk q ck, .int .i64 N] W fun e w' => e = .returned (.int .i64 (if N - (q : Int) < 0 then -1 else N - (q : Int))) ∧ w' = W) := (fun W => sz_bools W hq (by omega) (by omega) : ∀ W, _)
  have HR : Hid ((if N - (q : Int) < 0 then -1 else N - (q : Int)) < 0 ∨ (0 ≤ (if N - (q : Int) < 0 then -1 else N - (q : Int)) ∧ (if N - (q : Int) < 0 then -1 else N - (q : Int)) = N - (q : Int))) := (by split <;> omega : _ ∨ _)
  generalize (if N - (q : Int) < 0 then -1 else N - (q : Int)) = R at HQ HR
  clear hN
  go_enter Try.func10, Try.ntmps10
  go_upto_region 1 with fail
  rw [← (show w0 = _ from HB)]
  go_wp2_with fail
  refine HS.mono ?_
  rintro e w1 ⟨rfl, k1⟩
  have HF : Hid (Kb 0 w w1) := (show Kb 0 w w0 from HK).trans k1
  have d9 := k1.cell c9
  have HQ1 := (show ∀ W, _ from HQ) w1
  clear HS k1 HQ c0 c1 c2 c3 c4 c5 c6 c7 c8 c9
  go_wp2_with fail
  refine HQ1.mono ?_
  rintro e w2 ⟨rfl, hw2⟩
  subst hw2
  clear HQ1
  by_cases gR : R < 0
  · go_wp2_with fail
    go_ret
    exact ⟨_, rfl, .inl (by omega), HF⟩
  · go_wp2_with fail
    go_ret
    exact ⟨_, rfl, HR, HF⟩
end Go.Proofs.Ytaoagjajjeddcaa.Fo
