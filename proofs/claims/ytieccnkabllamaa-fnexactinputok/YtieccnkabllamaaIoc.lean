import Derived.Test.YtieccnkabllamaaIob
namespace Go.Proofs.Ytieccnkabllamaa.Fo
open Go.ChangeShapes Go.WideShapes Go.ChangeAt Go.RowKit
set_option linter.unusedVariables false
set_option maxRecDepth 100000
set_option maxHeartbeats 4000000 in
theorem im_long (x : ByteArray) (w : World) : Calls Try.prog 56 #[.string x] w fun e w' => e = .returned (.bool (dc (¬ x.size ≤ 4000))) ∧ w' = w := by
  by_cases h4 : x.size ≤ 4000
  · rw [dc_f (by omega)]
    have g4 : ¬ (4000 : Int) < (x.size : Int) := by omega
    clear h4
    go_enter Try.func56, Try.ntmps56
    go_wp2_with fail
    go_ret
    exact ⟨rfl, rfl⟩
  · rw [dc_t (by omega)]
    have g4 : (4000 : Int) < (x.size : Int) := by omega
    clear h4
    go_enter Try.func56, Try.ntmps56
    go_wp2_with fail
    go_ret
    exact ⟨rfl, rfl⟩
set_option maxHeartbeats 4000000 in
theorem im_lindex {v : Value} {p : Nat} {A : Nat → ByteArray} (w : World) (hr : RowV w v p (fun i => .string (A i))) (hp : p ≤ 1048576) :
    Calls Try.prog 66 #[v, .func (.func 56) #[] #[]] w fun e w' => ∃ r : Int, e = .returned (.int .i64 r) ∧ ((0 ≤ r ∧ ¬ ∀ j, j < p → (A j).size ≤ 4000) ∨ (r = -1 ∧ ∀ j, j < p → (A j).size ≤ 4000)) ∧ w' = w := by
  obtain ⟨pa, ca, rfl, hr2⟩ := hr
  have hpI : (p : Int) ≤ 1048576 := by omega
  have HR : Hid (0 < p → ∃ a : Addr, pa = some a ∧ p ≤ ca ∧ ∀ i, i < p → w.cell? (a.add i) = some (.string (A i))) := hr2
  clear hr2 hp
  go_enter Try.func66, Try.ntmps66
  go_wp2_with fail
  go_loopw [8] (fun s8 wr => ∃ i : Nat, s8 = .int .i64 (i : Int) ∧ i ≤ p ∧ wr = w ∧ Hid (∀ j, j < i → (A j).size ≤ 4000)) (fun s8 _ => p - (intOf s8).toNat)
  case atStart => exact ⟨0, rfl, Nat.zero_le _, rfl, (fun j hj => by omega : ∀ j, _)⟩
  case round =>
    obtain ⟨i, rfl, hin, rfl, HI⟩ := hrel
    have ha := (show ∀ j, j < i → (A j).size ≤ 4000 from HI)
    rcases Nat.lt_or_ge i p with hi | hi
    · have hiI : (i : Int) < (p : Int) := by omega
      obtain ⟨a, rfl, hca, hra⟩ := (show 0 < p → _ from HR) (by omega)
      have qa : wr.cell? (a.add i) = some (.string (A i)) := hra i hi
      have hcall := im_long (A i) wr
      by_cases hn : (A i).size ≤ 4000
      · rw [dc_f (not_not_intro hn)] at hcall
        have HX : Hid (∀ j, j < i + 1 → (A j).size ≤ 4000) := (fun j hj => by
          by_cases e : j = i
          · rw [e]; exact hn
          · exact ha j (by omega) : ∀ j, _)
        clear HI ha hra hn
        generalize A i = x at *
        go_wp2_with fail
        refine hcall.mono ?_
        rintro e w' ⟨rfl, rfl⟩
        go_wp2_with fail
        go_roundw
        case rel => exact ⟨i + 1, by go_num, by omega, by trivial, HX⟩
        case measure => simp [intOf]; omega
      · rw [dc_t hn] at hcall
        have HX : Hid (¬ ∀ j, j < p → (A j).size ≤ 4000) := (fun h => hn (h i hi) : ¬ _)
        clear HI ha hra hn
        generalize A i = x at *
        go_wp2_with fail
        refine hcall.mono ?_
        rintro e w' ⟨rfl, rfl⟩
        go_wp2_with fail
        go_ret
        exact ⟨(i : Int), rfl, .inl ⟨by omega, HX⟩, rfl⟩
    · obtain rfl : i = p := by omega
      clear HR ha
      go_wp2_with fail
      go_ret
      exact ⟨-1, rfl, .inr ⟨rfl, HI⟩, rfl⟩
set_option maxHeartbeats 4000000 in
theorem im_lcontains {v : Value} {p : Nat} {A : Nat → ByteArray} (w : World) (hr : RowV w v p (fun i => .string (A i))) (hp : p ≤ 1048576) :
    Calls Try.prog 44 #[v, .func (.func 56) #[] #[]] w fun e w' => e = .returned (.bool (dc (¬ ∀ j, j < p → (A j).size ≤ 4000))) ∧ w' = w := by
  have h1 := im_lindex w hr hp
  obtain ⟨pa, ca, rfl, hr2⟩ := hr
  clear hr2 hp
  obtain ⟨z, hz⟩ : ∃ z, z = dc (¬ ∀ j, j < p → (A j).size ≤ 4000) := ⟨_, rfl⟩
  have HZ : Hid (z = dc (¬ ∀ j, j < p → (A j).size ≤ 4000)) := hz
  rw [← hz]
  clear hz
  go_enter Try.func44, Try.ntmps44
  go_wp2_with fail
  refine h1.mono ?_
  rintro e w1 ⟨r, rfl, hR, rfl⟩
  clear h1
  rcases hR with ⟨h0, hn⟩ | ⟨rfl, hn⟩
  · have hX : z = true := (show z = _ from HZ).trans (dc_t hn)
    subst hX
    clear hn HZ
    go_wp2_with fail
    go_ret
    exact ⟨rfl, rfl⟩
  · have hX : z = false := (show z = _ from HZ).trans (dc_f (not_not_intro hn))
    subst hX
    clear hn HZ
    go_wp2_with fail
    go_ret
    exact ⟨rfl, rfl⟩
set_option maxHeartbeats 4000000 in
theorem im_lines {v : Value} {p : Nat} {A : Nat → ByteArray} (w : World) (hr : RowV w v p (fun i => .string (A i))) (hp : p ≤ 1048576) :
    Calls Try.prog 33 #[v] w fun e w' => e = .returned (.bool (dc (Lns p A))) ∧ w' = w := by
  have h1 := im_lcontains w hr hp
  obtain ⟨pa, ca, rfl, hr2⟩ := hr
  have hpI : (p : Int) ≤ 1048576 := by omega
  clear hr2 hp
  by_cases c : p ≤ 200
  · have g : (p : Int) ≤ 200 := by omega
    by_cases d : ∀ j, j < p → (A j).size ≤ 4000
    · rw [dc_t (p := Lns p A) ⟨c, d⟩]
      rw [dc_f (not_not_intro d)] at h1
      clear c d
      go_enter Try.func33, Try.ntmps33
      go_wp2_with fail
      refine h1.mono ?_
      rintro e w1 ⟨rfl, rfl⟩
      go_wp2_with fail
      go_ret
      exact ⟨rfl, rfl⟩
    · rw [dc_f (p := Lns p A) (fun h => d h.2)]
      rw [dc_t d] at h1
      clear c d
      go_enter Try.func33, Try.ntmps33
      go_wp2_with fail
      refine h1.mono ?_
      rintro e w1 ⟨rfl, rfl⟩
      go_wp2_with fail
      go_ret
      exact ⟨rfl, rfl⟩
  · rw [dc_f (p := Lns p A) (fun h => c h.1)]
    have g : ¬ (p : Int) ≤ 200 := by omega
    clear c h1
    go_enter Try.func33, Try.ntmps33
    go_wp2_with fail
    all_goals (go_ret; exact ⟨rfl, rfl⟩)
set_option maxHeartbeats 16000000 in
theorem im_input {va vl : Value} {p q : Nat} {A L : Nat → ByteArray} (T D C : Int) (w : World) (ha : RowV w va p (fun i => .string (A i))) (hl : RowV w vl q (fun i => .string (L i))) (hp : p ≤ 1048576) (hq : q ≤ 1048576) :
    Calls Try.prog 14 #[.agg #[va, vl, .int .i64 T, .int .i64 D, .int .i64 C]] w fun e w' => e = .returned (.bool (dc (Iok p q A L T D C))) ∧ Kb 0 w w' := by
  have HCA : Hid (∀ W, Kb 0 w W → Calls Try.prog 33 #[va] W fun e w' => e = .returned (.bool (dc (Lns p A))) ∧ w' = W) := (fun W k => im_lines W (ha.rowB.keep k).row hp : ∀ W, _)
  have HCL : Hid (∀ W, Kb 0 w W → Calls Try.prog 33 #[vl] W fun e w' => e = .returned (.bool (dc (Lns q L))) ∧ w' = W) := (fun W k => im_lines W (hl.rowB.keep k).row hq : ∀ W, _)
  obtain ⟨pa, ca, rfl, -⟩ := ha
  obtain ⟨pl, cl, rfl, -⟩ := hl
  obtain ⟨z, hz⟩ : ∃ z, z = dc (Iok p q A L T D C) := ⟨_, rfl⟩
  rw [← hz]
  have HZ : Hid (z = dc (Iok p q A L T D C)) := hz
  clear hz
  obtain ⟨w0, hw0⟩ : ∃ w0, w0 = w.alloc (.cells #[.slice pa p ca, .slice pl q cl, .int .i64 T, .int .i64 D, .int .i64 C] 41) := ⟨_, rfl⟩
  have k0 : Kb 0 w w0 := by rw [hw0]; exact kb_alloc _ _ _
  have b0 : w0.heap[w.heap.size]? = some (.cells #[.slice pa p ca, .slice pl q cl, .int .i64 T, .int .i64 D, .int .i64 C] 41 (0, 0)) := by rw [hw0]; exact alloc_new _ _ _
  have c1 : w0.cell? ⟨w.heap.size, 1, none⟩ = some (.slice pl q cl) := cell_of b0 rfl
  have c2 : w0.cell? ⟨w.heap.size, 2, none⟩ = some (.int .i64 T) := cell_of b0 rfl
  have c3 : w0.cell? ⟨w.heap.size, 3, none⟩ = some (.int .i64 D) := cell_of b0 rfl
  have c4 : w0.cell? ⟨w.heap.size, 4, none⟩ = some (.int .i64 C) := cell_of b0 rfl
  have HK : Hid (Kb 0 w w0) := k0
  have HW0 : Hid (w0 = w.alloc (.cells #[.slice pa p ca, .slice pl q cl, .int .i64 T, .int .i64 D, .int .i64 C] 41)) := hw0
  clear k0 b0 hw0 hp hq
  go_enter Try.func14, Try.ntmps14
  go_wp2_with fail
  rw [← (show w0 = _ from HW0)]
  clear HW0
  refine ((show ∀ W, Kb 0 w W → Calls Try.prog 33 #[(.slice pa p ca)] W fun e w' => e = .returned (.bool (dc (Lns p A))) ∧ w' = W from HCA) w0 HK).mono ?_
  rintro e w1 ⟨rfl, hw1⟩
  subst hw1
  clear HCA
  by_cases h1 : Lns p A
  case neg =>
    obtain rfl : z = false := (show z = _ from HZ).trans (dc_f (fun h => h1 h.1))
    rw [dc_f h1]
    clear HZ HCL h1
    go_wp2_with fail
    all_goals (go_ret; exact ⟨rfl, HK⟩)
  rw [dc_t h1]
  have HA : Hid (Lns p A) := h1
  clear h1
  go_wp2_with fail
  refine ((show ∀ W, Kb 0 w W → Calls Try.prog 33 #[(.slice pl q cl)] W fun e w' => e = .returned (.bool (dc (Lns q L))) ∧ w' = W from HCL) _ HK).mono ?_
  rintro e w2 ⟨rfl, hw2⟩
  subst hw2
  clear HCL
  by_cases h1 : Lns q L
  case neg =>
    obtain rfl : z = false := (show z = _ from HZ).trans (dc_f (fun h => h1 h.2.1))
    rw [dc_f h1]
    clear HZ h1
    go_wp2_with fail
    all_goals (go_ret; exact ⟨rfl, HK⟩)
  rw [dc_t h1]
  have HB : Hid (Lns q L) := h1
  clear h1
  by_cases tT : 0 ≤ T
  case neg =>
    obtain rfl : z = false := (show z = _ from HZ).trans (dc_f (fun h => tT h.2.2.1))
    clear HZ HA HB
    go_wp2_with fail
    all_goals (go_ret; exact ⟨rfl, HK⟩)
  by_cases uT : T ≤ 5000
  case neg =>
    obtain rfl : z = false := (show z = _ from HZ).trans (dc_f (fun h => uT h.2.2.2.1))
    clear HZ HA HB
    go_wp2_with fail
    all_goals (go_ret; exact ⟨rfl, HK⟩)
  by_cases tD : 1 ≤ D
  case neg =>
    obtain rfl : z = false := (show z = _ from HZ).trans (dc_f (fun h => tD h.2.2.2.2.1))
    clear HZ HA HB
    go_wp2_with fail
    all_goals (go_ret; exact ⟨rfl, HK⟩)
  by_cases uD : D ≤ 60
  case neg =>
    obtain rfl : z = false := (show z = _ from HZ).trans (dc_f (fun h => uD h.2.2.2.2.2.1))
    clear HZ HA HB
    go_wp2_with fail
    all_goals (go_ret; exact ⟨rfl, HK⟩)
  by_cases tC : 0 ≤ C
  case neg =>
    obtain rfl : z = false := (show z = _ from HZ).trans (dc_f (fun h => tC h.2.2.2.2.2.2.1))
    clear HZ HA HB
    go_wp2_with fail
    all_goals (go_ret; exact ⟨rfl, HK⟩)
  by_cases uC : C ≤ 20000
  case neg =>
    obtain rfl : z = false := (show z = _ from HZ).trans (dc_f (fun h => uC h.2.2.2.2.2.2.2))
    clear HZ HA HB
    go_wp2_with fail
    all_goals (go_ret; exact ⟨by first | rfl | simp [uC], HK⟩)
  obtain rfl : z = true := (show z = _ from HZ).trans (dc_t ⟨HA, HB, tT, uT, tD, uD, tC, uC⟩)
  clear HZ HA HB
  go_wp2_with fail
  all_goals (go_ret; exact ⟨by first | rfl | simp [uC], HK⟩)
end Go.Proofs.Ytieccnkabllamaa.Fo
