import Derived.Test.YtaoagjajjeddcaaEvc
namespace Go.Proofs.Ytaoagjajjeddcaa.Fo
open Go.ChangeShapes Go.WideShapes Go.ChangeAt Go.RowKit
set_option linter.unusedVariables false
set_option maxRecDepth 100000
theorem eq_st0 {k f l : Int} {z : ByteArray} (w : World) : (binOp .eql 26 (.agg #[.int .i64 k, .int .i64 f, .int .i64 l, .string z]) (.agg #[.int .i64 0, .int .i64 0, .int .i64 0, .string { data := #[] }])).run Try.prog w = .ok (.bool (dc (k = 0 ∧ f = 0 ∧ l = 0 ∧ z.size = 0))) w := by
  have hz : (z.toList == []) = dc (z.size = 0) := by
    by_cases h : z.size = 0
    · rw [dc_t h, se_0 h]; rfl
    · rw [dc_f h]
      have := se_e h
      cases e : z.toList with
      | nil => rw [e] at this; cases this
      | cons a t => rfl
  have e : (Op.equalIn 10000 26 (.agg #[.int .i64 k, .int .i64 f, .int .i64 l, .string z]) (.agg #[.int .i64 0, .int .i64 0, .int .i64 0, .string { data := #[] }])).run Try.prog w = .ok (k == 0 && (f == 0 && (l == 0 && (z.toList == [])))) w := by
    rw [run_equalIn_agg w 9999 26 _ _ (by kernel_rfl) (by kernel_rfl)]
    simp only [Program.fieldsOf, Try.underlying26]
    by_cases h1 : k = 0 <;> by_cases h2 : f = 0 <;> by_cases h3 : l = 0 <;> by_cases h4 : z.toList = [] <;> simp [Op.eqFields, part, go_sem, Try.underlying9, Try.underlying3, h1, h2, h3, h4]
  rw [run_eql_struct, e]
  show Result.ok (Value.bool (k == 0 && (f == 0 && (l == 0 && (z.toList == []))))) w = _
  rw [hz]
  by_cases h1 : k = 0 <;> by_cases h2 : f = 0 <;> by_cases h3 : l = 0 <;> by_cases h4 : z.size = 0 <;> simp [h1, h2, h3, h4, dc]

set_option maxHeartbeats 8000000 in
theorem im_allows {a0 b0 a1 b1 a2 b2 a3 b3 a4 b4 : Int} {sb : Bool} {k f l : Int} {z : ByteArray} (w : World) (hz : (z.size : Int) ≤ 9223372036854775807) :
    Calls Try.prog 29 #[.agg #[.int .i64 a0, .int .i64 b0, .int .i64 a1, .int .i64 b1, .int .i64 a2, .int .i64 b2, .int .i64 a3, .int .i64 b3, .int .i64 a4, .int .i64 b4, .bool sb], .agg #[.int .i64 k, .int .i64 f, .int .i64 l, .string z]] w fun e w' => e = .returned (.bool (dc ((sb = true → StP k f l z.size) ∧ (sb = false → k = 0 ∧ f = 0 ∧ l = 0 ∧ z.size = 0)))) ∧ Kb 0 w w' := by
  obtain ⟨w2, hw2⟩ : ∃ w2, w2 = (w.alloc (.cells #[.int .i64 a0, .int .i64 b0, .int .i64 a1, .int .i64 b1, .int .i64 a2, .int .i64 b2, .int .i64 a3, .int .i64 b3, .int .i64 a4, .int .i64 b4, .bool sb] 56)).alloc (.cells #[.int .i64 k, .int .i64 f, .int .i64 l, .string z] 26) := ⟨_, rfl⟩
  obtain ⟨b0, b1, z2, k2⟩ := two_newE w _ _ _ _ w2 hw2
  have c10 : w2.cell? ⟨w.heap.size, 10, none⟩ = some (.bool sb) := cell_of b0 rfl
  have d0 : w2.cell? ⟨w.heap.size + 1, 0, none⟩ = some (.int .i64 k) := cell_of b1 rfl
  have d1 : w2.cell? ⟨w.heap.size + 1, 1, none⟩ = some (.int .i64 f) := cell_of b1 rfl
  have d2 : w2.cell? ⟨w.heap.size + 1, 2, none⟩ = some (.int .i64 l) := cell_of b1 rfl
  have d3 : w2.cell? ⟨w.heap.size + 1, 3, none⟩ = some (.string z) := cell_of b1 rfl
  have HW : Hid (w2 = _) := hw2
  have HK : Hid (Kb 0 w w2) := k2
  clear hw2 b0 b1 z2 k2
  cases sb with
  | true =>
    have HS := im_stop (k := k) (f := f) (l := l) (s := z) w2 hz
    have e : dc ((true = true → StP k f l z.size) ∧ (true = false → k = 0 ∧ f = 0 ∧ l = 0 ∧ z.size = 0)) = dc (StP k f l z.size) := by
      congr 1; exact propext ⟨fun q => q.1 rfl, fun q => ⟨fun _ => q, fun h => (by cases h)⟩⟩
    rw [e]
    generalize dc (StP k f l z.size) = ans at HS ⊢
    clear e
    go_enter Try.func29, Try.ntmps29
    go_upto_region 1 with fail
    rw [← (show w2 = _ from HW)]
    go_wp2_with fail
    refine HS.mono ?_
    rintro e w3 ⟨rfl, k3⟩
    have HF : Hid (Kb 0 w w3) := (show Kb 0 w w2 from HK).trans k3
    clear HS k3 HK
    go_wp2_with fail
    go_ret
    exact ⟨rfl, HF⟩
  | false =>
    have e : dc ((false = true → StP k f l z.size) ∧ (false = false → k = 0 ∧ f = 0 ∧ l = 0 ∧ z.size = 0)) = dc (k = 0 ∧ f = 0 ∧ l = 0 ∧ z.size = 0) := by
      congr 1; exact propext ⟨fun q => q.2 rfl, fun q => ⟨fun h => (by cases h), fun _ => q⟩⟩
    rw [e]
    have HQ := fun w => eq_st0 (k := k) (f := f) (l := l) (z := z) w
    generalize dc (k = 0 ∧ f = 0 ∧ l = 0 ∧ z.size = 0) = ans at HQ ⊢
    clear e
    go_enter Try.func29, Try.ntmps29
    go_upto_region 1 with fail
    rw [← (show w2 = _ from HW)]
    go_wp2_with fail
    go_ret
    exact ⟨rfl, HK⟩
end Go.Proofs.Ytaoagjajjeddcaa.Fo
