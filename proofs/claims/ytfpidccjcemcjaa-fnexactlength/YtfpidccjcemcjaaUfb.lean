import Derived.Test.YtfpidccjcemcjaaUfa
namespace Go.Proofs.Ytfpidccjcemcjaa
open Go.ChangeShapes Go.WideShapes Go.ChangeAt Go.RowKit
set_option linter.unusedVariables false
set_option maxRecDepth 100000
theorem Vb_ki (z : Int) (h : -9223372036854775808 ≤ z ∧ z ≤ 9223372036854775807) : Vb (ki z) := ⟨by show -9223372036854775808 ≤ (2 : Int) ∧ (2 : Int) ≤ 9223372036854775807; omega, h, by show (0 : Nat) < 18446744073709551616; omega, by show ((0 : Nat) : Int) < 140737488355328; omega, by show -9223372036854775808 ≤ (0 : Int) ∧ (0 : Int) ≤ 9223372036854775807; omega⟩
theorem wrap1 (c : Int) (h0 : 0 ≤ c) (h1 : c ≤ 1048576) : IntKind.i64.wrap (c + 1) = c + 1 := by
  rw [IntKind.wrap_i64]
  omega
/-- between two rounds -/
def Lr (n : Nat) (F : Nat → Pv) (c : Int) : Prop := (∀ i : Int, 1 ≤ i → i ≤ c → hasI n F i) ∧ c + (cg F c n : Int) ≤ (n : Int)
theorem Lr.zero (n : Nat) (F : Nat → Pv) : Lr n F 0 := ⟨fun i h1 h2 => by omega, by have := cg_n F 0 n; omega⟩
theorem Lr.step {n : Nat} {F : Nat → Pv} {c : Int} (h : Lr n F c) (hks : ∀ i, i < n → kok (F i).a) (h1 : hasI n F (c + 1)) : Lr n F (c + 1) ∧ cg F (c + 1) n < cg F c n := by
  obtain ⟨j, hj, hm⟩ := h1
  obtain ⟨q1, q2⟩ := (mk_ki _ (hks j hj) _).1 hm
  have := cg_lt F c n j hj q1 q2
  refine ⟨⟨fun i h1 h2 => ?_, by have := h.2; omega⟩, by omega⟩
  by_cases e : i = c + 1
  · subst e; exact ⟨j, hj, hm⟩
  · exact h.1 i h1 (by omega)
set_option maxHeartbeats 8000000 in
theorem sp_len0 {v : Value} {g n : Nat} {F : Nat → Pv} (T : Int) (w : World) (ha : OwnP w v g n F) (tb : Tb n F) (hks : ∀ i, i < n → kok (F i).a) : Calls Try.prog 56 #[.agg #[v, .int .i64 T]] w fun e w' => ∃ c : Int, e = .returned (.int .i64 c) ∧ Ln n F c ∧ Kq w w' := by
  obtain ⟨pa, ca, rfl, ha2⟩ := ha.sl
  have hnI : (n : Int) ≤ 1048576 := by have := tb.len; omega
  obtain ⟨w1, hw1⟩ : ∃ w1, w1 = w.alloc (.cells #[.slice pa n ca, .int .i64 T] 40) := ⟨_, rfl⟩
  have k1 : Kq w w1 := by rw [hw1]; exact kq_alloc _ _ _
  have a1 : w1.heap[w.heap.size]? = some (.cells #[.slice pa n ca, .int .i64 T] 40 (0, 0)) := by rw [hw1]; exact alloc_new _ _
  have HS : Hid (∀ W', Kq w1 W' → W'.cell? ⟨w.heap.size, 0, none⟩ = some (.slice pa n ca) ∧ W'.cell? ⟨w.heap.size, 1, none⟩ = some (.int .i64 T)) := (fun W' q => ⟨q.cell (cell_of a1 rfl), q.cell (cell_of a1 rfl)⟩ : ∀ W', Kq w1 W' → _)
  have HAT : Hid (∀ (c : Int), 0 ≤ c → c ≤ 1048576 → ∀ W, Kq w1 W → Calls Try.prog 68 #[.agg #[.slice pa n ca, .int .i64 T], vv (ki (c + 1))] W fun e w' => ∃ r : Int, e = .returned (.int .i64 r) ∧ At n F (ki (c + 1)) r ∧ Kq W w') := (fun c h0 h1 W q => sp_at T (ki (c + 1)) W ((ha.kq k1).kq q) tb hks (kok_ki _) (Vb_ki _ (by omega)) (by show ((0 : Nat) : Int) ≤ 1048576; omega) : ∀ (c : Int), _)
  have HST : Hid (∀ c, Lr n F c → hasI n F (c + 1) → Lr n F (c + 1) ∧ cg F (c + 1) n < cg F c n) := (fun c h1 h2 => h1.step hks h2 : ∀ c, _)
  have HK : Hid (Kq w w1) := k1
  clear ha ha2 tb hks k1 a1
  go_enter Try.func56, Try.ntmps56
  go_wp2_with fail
  rw [← hw1]
  clear hw1
  go_loopw [3] (fun s3 wr => ∃ c : Int, s3 = .int .i64 c ∧ 0 ≤ c ∧ c ≤ (n : Int) ∧ Hid (Kq w1 wr ∧ Lr n F c)) (fun s3 _ => cg F (intOf s3) n)
  case atStart => exact ⟨0, rfl, by omega, by omega, (⟨Kq.refl _, Lr.zero n F⟩ : _ ∧ _)⟩
  case round =>
    obtain ⟨c, rfl, hc0, hcn, HX⟩ := hrel
    have hwr := wrap1 c hc0 (by omega)
    have HI := fun w => sp_int (c + 1) w
    unfold vv at HI
    dsimp only at HI
    have HA2 := (show ∀ (c : Int), 0 ≤ c → c ≤ 1048576 → ∀ W, Kq w1 W → _ from HAT) c hc0 (by omega)
    unfold vv ki at HA2
    dsimp only at HA2
    have hK := (show Kq w1 wr ∧ Lr n F c from HX).1
    have HKR : Hid (Kq w1 wr) := hK
    clear hK
    go_wp2_with fail
    refine AnyL.region (S := fun W' : World => W'.cell? ⟨w.heap.size, 0, none⟩ = some (.slice pa n ca) ∧ W'.cell? ⟨w.heap.size, 1, none⟩ = some (.int .i64 T)) (z := 99) (by kernel_rfl) ?_
    have hS0 : (fun W' : World => W'.cell? ⟨w.heap.size, 0, none⟩ = some (.slice pa n ca) ∧ W'.cell? ⟨w.heap.size, 1, none⟩ = some (.int .i64 T)) wr.drew := (show ∀ W', Kq w1 W' → W'.cell? ⟨w.heap.size, 0, none⟩ = some (.slice pa n ca) ∧ W'.cell? ⟨w.heap.size, 1, none⟩ = some (.int .i64 T) from HS) wr.drew (Kq.drew HKR)
    refine AnyL.takeAt 0 (.agg #[.slice pa n ca, .int .i64 T]) rfl (by kernel_rfl) (by kernel_rfl) (by kernel_rfl) (by kernel_rfl) (fun _ _ _ h => h) rfl hS0 (by intro W hW; obtain ⟨q0, q1⟩ := hW; go_simp) ?_
    try simp only [Act.put, List.setIfInBounds_toArray, List.set_cons_zero, List.set_cons_succ]
    refine AnyL.takeAt 1 (.int .i64 c) rfl (by kernel_rfl) (by kernel_rfl) (by kernel_rfl) (by kernel_rfl) (fun _ _ _ h => h) rfl hS0 (by intro W hW; obtain ⟨q0, q1⟩ := hW; go_simp) ?_
    try simp only [Act.put, List.setIfInBounds_toArray, List.set_cons_zero, List.set_cons_succ]
    refine AnyL.takeAt 2 (.int .i64 (c + 1)) rfl (by kernel_rfl) (by kernel_rfl) (by kernel_rfl) (by kernel_rfl) (fun _ _ _ h => h) rfl hS0 (by intro W hW; obtain ⟨q0, q1⟩ := hW; go_simp) ?_
    try simp only [Act.put, List.setIfInBounds_toArray, List.set_cons_zero, List.set_cons_succ]
    refine AnyL.oneAt 3 rfl (by kernel_rfl) rfl ?_
    intro K hK
    go_simp
    refine (HI _).mono ?_
    rintro e w3 ⟨rfl, g3⟩
    have K3 : Hid (Kq w1 w3) := Kq.trans (Kq.drew HKR) (.of_grown g3)
    have hS3 := (show ∀ W', Kq w1 W' → W'.cell? ⟨w.heap.size, 0, none⟩ = some (.slice pa n ca) ∧ W'.cell? ⟨w.heap.size, 1, none⟩ = some (.int .i64 T) from HS) w3 K3
    clear g3
    refine hK.out _ _ (fun _ => hS3) ?_
    clear hK K
    try simp only [Act.put, List.setIfInBounds_toArray, List.set_cons_zero, List.set_cons_succ]
    refine AnyL.oneAt 4 rfl (by kernel_rfl) rfl ?_
    intro K hK
    go_simp
    refine (HA2 w3 K3).mono ?_
    rintro e w4 ⟨r, rfl, hat, g4⟩
    have K4 : Hid (Kq w1 w4) := Kq.trans K3 g4
    have hS4 := (show ∀ W', Kq w1 W' → W'.cell? ⟨w.heap.size, 0, none⟩ = some (.slice pa n ca) ∧ W'.cell? ⟨w.heap.size, 1, none⟩ = some (.int .i64 T) from HS) w4 K4
    clear g4 K3 hS3 hS0
    refine hK.out _ _ (fun _ => hS4) ?_
    clear hK K
    try simp only [Act.put, List.setIfInBounds_toArray, List.set_cons_zero, List.set_cons_succ]
    refine AnyL.takeAt 5 (.bool (decide (0 ≤ r))) rfl (by kernel_rfl) (by kernel_rfl) (by kernel_rfl) (by kernel_rfl) (fun _ _ _ h => h) rfl hS4 (by intro W hW; go_simp) ?_
    try simp only [Act.put, List.setIfInBounds_toArray, List.set_cons_zero, List.set_cons_succ]
    refine AnyL.done (by kernel_rfl) ?_
    have hX := (show Kq w1 wr ∧ Lr n F c from HX)
    rcases hat with ⟨rfl, hno⟩ | ⟨j, hj, rfl, hm⟩
    · have HE : Hid (Ln n F c ∧ Kq w w4) := (⟨⟨hc0, hX.2.1, fun ⟨j, hj, hm⟩ => hno j hj hm⟩, Kq.trans HK K4⟩ : _ ∧ _)
      clear hX HX HAT HA2 HI hS4 K4 HS HKR hno
      go_wp2_with fail
      go_ret
      exact ⟨c, rfl, (show Ln n F c ∧ Kq w w4 from HE).1, (show Ln n F c ∧ Kq w w4 from HE).2⟩
    · obtain ⟨hr2, hlt⟩ := (show ∀ c, Lr n F c → hasI n F (c + 1) → _ from HST) c hX.2 ⟨j, hj, hm⟩
      have hcn2 : c + 1 ≤ (n : Int) := by have := hr2.2; omega
      have HN : Hid (Kq w1 w4 ∧ Lr n F (c + 1)) := (⟨K4, hr2⟩ : _ ∧ _)
      have HLT : Hid (cg F (c + 1) n < cg F c n) := hlt
      have hjd : decide (0 ≤ (j : Int)) = true := by simp
      rw [hjd]
      clear hX HX HAT HA2 HI hS4 K4 HS HKR hm hr2 hlt hjd
      go_wp2_with fail
      go_roundw
      case rel => first | exact ⟨c + 1, by go_num, by omega, hcn2, HN⟩ | ((repeat apply Exists.intro); exact ⟨⟨c + 1, by go_num, by omega, hcn2, HN⟩, rfl⟩)
      case measure => exact HLT
end Go.Proofs.Ytfpidccjcemcjaa
