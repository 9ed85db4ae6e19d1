import Derived.Test.YtieccnkabllamaaIoa
namespace Go.Proofs.Ytieccnkabllamaa.Fo
open Go.ChangeShapes Go.WideShapes Go.ChangeAt Go.RowKit
set_option linter.unusedVariables false
set_option maxRecDepth 100000
/-- the texts are few and short -/
def Lns (p : Nat) (A : Nat → ByteArray) : Prop := p ≤ 200 ∧ ∀ i, i < p → (A i).size ≤ 4000
def Iok (p q : Nat) (A L : Nat → ByteArray) (T D C : Int) : Prop := Lns p A ∧ Lns q L ∧ 0 ≤ T ∧ T ≤ 5000 ∧ 1 ≤ D ∧ D ≤ 60 ∧ 0 ≤ C ∧ C ≤ 20000
set_option maxHeartbeats 16000000 in
theorem sp_input {va vl : Value} {p q : Nat} {A L : Nat → ByteArray} (T D C : Int) (w : World) (ha : RowV w va p (fun i => .string (A i))) (hl : RowV w vl q (fun i => .string (L i))) (hp : p ≤ 1048576) (hq : q ≤ 1048576) :
    Calls Try.prog 12 #[.agg #[va, vl, .int .i64 T, .int .i64 D, .int .i64 C]] w fun e w' => e = .returned (.bool (dc (Iok p q A L T D C))) ∧ Kb 0 w w' := by
  obtain ⟨pa, ca, rfl, ha2⟩ := ha
  obtain ⟨pl, cl, rfl, hl2⟩ := hl
  obtain ⟨z, hz⟩ : ∃ z, z = dc (Iok p q A L T D C) := ⟨_, rfl⟩
  rw [← hz]
  have HZ : Hid (z = dc (Iok p q A L T D C)) := hz
  clear hz
  have hpI : (p : Int) ≤ 1048576 := by omega
  have hqI : (q : Int) ≤ 1048576 := by omega
  obtain ⟨w0, hw0⟩ : ∃ w0, w0 = w.alloc (.cells #[.slice pa p ca, .slice pl q cl, .int .i64 T, .int .i64 D, .int .i64 C] 41) := ⟨_, rfl⟩
  have k0 : Kb 0 w w0 := by rw [hw0]; exact kb_alloc _ _ _
  have b0 : w0.heap[w.heap.size]? = some (.cells #[.slice pa p ca, .slice pl q cl, .int .i64 T, .int .i64 D, .int .i64 C] 41 (0, 0)) := by rw [hw0]; exact alloc_new _ _ _
  have c1 : w0.cell? ⟨w.heap.size, 1, none⟩ = some (.slice pl q cl) := cell_of b0 rfl
  have c2 : w0.cell? ⟨w.heap.size, 2, none⟩ = some (.int .i64 T) := cell_of b0 rfl
  have c3 : w0.cell? ⟨w.heap.size, 3, none⟩ = some (.int .i64 D) := cell_of b0 rfl
  have c4 : w0.cell? ⟨w.heap.size, 4, none⟩ = some (.int .i64 C) := cell_of b0 rfl
  have HA : Hid (0 < p → ∃ a : Addr, pa = some a ∧ p ≤ ca ∧ ∀ i, i < p → w0.cell? (a.add i) = some (.string (A i))) := (fun h => by obtain ⟨a, x1, x2, x3⟩ := ha2 h; exact ⟨a, x1, x2, fun i hi => k0.cell (x3 i hi)⟩ : _ → _)
  have HL : Hid (0 < q → ∃ a : Addr, pl = some a ∧ q ≤ cl ∧ ∀ i, i < q → w0.cell? (a.add i) = some (.string (L i))) := (fun h => by obtain ⟨a, x1, x2, x3⟩ := hl2 h; exact ⟨a, x1, x2, fun i hi => k0.cell (x3 i hi)⟩ : _ → _)
  have HK : Hid (Kb 0 w w0) := k0
  have HW0 : Hid (w0 = w.alloc (.cells #[.slice pa p ca, .slice pl q cl, .int .i64 T, .int .i64 D, .int .i64 C] 41)) := hw0
  have HB : Hid True := trivial
  clear ha2 hl2 k0 b0 hw0 hp hq
  by_cases h1 : p ≤ 200
  case neg =>
    obtain rfl : z = false := (show z = _ from HZ).trans (dc_f (fun h => h1 h.1.1))
    have g1 : (200 : Int) < (p : Int) := by omega
    clear h1 HZ HA HL c1 c2 c3 c4
    go_enter Try.func12, Try.ntmps12
    go_wp2_with fail
    all_goals (go_ret; exact ⟨rfl, kb_alloc _ _ _⟩)
  by_cases h2 : q ≤ 200
  case neg =>
    obtain rfl : z = false := (show z = _ from HZ).trans (dc_f (fun h => h2 h.2.1.1))
    have g1 : ¬ (200 : Int) < (p : Int) := by omega
    have g2 : (200 : Int) < (q : Int) := by omega
    clear h1 h2 HZ HA HL c1 c2 c3 c4
    go_enter Try.func12, Try.ntmps12
    go_wp2_with fail
    all_goals (go_ret; exact ⟨rfl, kb_alloc _ _ _⟩)
  have g1 : ¬ (200 : Int) < (p : Int) := by omega
  have g2 : ¬ (200 : Int) < (q : Int) := by omega
  have HQ : Hid (p ≤ 200 ∧ q ≤ 200) := (⟨h1, h2⟩ : _ ∧ _)
  clear h1 h2
  go_enter Try.func12, Try.ntmps12
  go_wp2_with fail
  rw [← (show w0 = _ from HW0)]
  clear HW0 g1 g2
  go_loopw [20] (fun s wr => ∃ i : Nat, s = .int .i64 (i : Int) ∧ i ≤ p ∧ w0 = wr ∧ Hid (∀ j, j < i → (A j).size ≤ 4000)) (fun s _ => p - (intOf s).toNat)
  case atStart => exact ⟨0, rfl, Nat.zero_le _, rfl, (fun j hj => by omega : ∀ j, _)⟩
  case round =>
    obtain ⟨i, rfl, hin, rfl, HI⟩ := hrel
    rcases Nat.lt_or_ge i p with hi | hi
    · have hiI : (i : Int) < (p : Int) := by omega
      obtain ⟨a, rfl, hca, hra⟩ := (show 0 < p → ∃ a : Addr, pa = some a ∧ p ≤ ca ∧ ∀ i, i < p → w0.cell? (a.add i) = some (.string (A i)) from HA) (by omega)
      have qa := hra i hi
      by_cases hx : (A i).size ≤ 4000
      · have HX : Hid (∀ j, j < i + 1 → (A j).size ≤ 4000) := (fun j hj => by
          by_cases e : j = i
          · rw [e]; exact hx
          · exact (show ∀ j, j < i → (A j).size ≤ 4000 from HI) j (by omega) : ∀ j, _)
        have hxI : ¬ (4000 : Int) < ((A i).size : Int) := by omega
        clear HI hra hx HZ HA HL HK HB
        generalize A i = x at *
        go_wp2_with fail
        go_roundw
        case rel => exact ⟨i + 1, by go_num, by omega, by trivial, HX⟩
        case measure => simp [intOf]; omega
      · obtain rfl : z = false := (show z = _ from HZ).trans (dc_f (fun h => hx (h.1.2 i hi)))
        have hxI : (4000 : Int) < ((A i).size : Int) := by omega
        have HKK : Hid (Kb 0 w w0) := HK
        clear HI hra hx HZ HA HL HK HB
        generalize A i = x at *
        go_wp2_with fail
        go_ret
        exact ⟨rfl, HKK⟩
    · obtain rfl : i = p := by omega
      have HA2 : Hid (Lns i A) := (⟨HQ.1, HI⟩ : _ ∧ _)
      clear HA HI hin hi
      have HA := HA2
      clear HA2
      go_wp2_with fail
      go_loopw [31] (fun s wr => ∃ i : Nat, s = .int .i64 (i : Int) ∧ i ≤ q ∧ w0 = wr ∧ Hid (∀ j, j < i → (L j).size ≤ 4000)) (fun s _ => q - (intOf s).toNat)
      case atStart => exact ⟨0, rfl, Nat.zero_le _, rfl, (fun j hj => by omega : ∀ j, _)⟩
      case round =>
        obtain ⟨i, rfl, hin, rfl, HI⟩ := hrel
        rcases Nat.lt_or_ge i q with hi | hi
        · have hiI : (i : Int) < (q : Int) := by omega
          obtain ⟨a, rfl, hca, hra⟩ := (show 0 < q → ∃ a : Addr, pl = some a ∧ q ≤ cl ∧ ∀ i, i < q → w0.cell? (a.add i) = some (.string (L i)) from HL) (by omega)
          have qa := hra i hi
          by_cases hx : (L i).size ≤ 4000
          · have HX : Hid (∀ j, j < i + 1 → (L j).size ≤ 4000) := (fun j hj => by
              by_cases e : j = i
              · rw [e]; exact hx
              · exact (show ∀ j, j < i → (L j).size ≤ 4000 from HI) j (by omega) : ∀ j, _)
            have hxI : ¬ (4000 : Int) < ((L i).size : Int) := by omega
            clear HI hra hx HZ HA HL HK HB
            generalize L i = x at *
            go_wp2_with fail
            go_roundw
            case rel => exact ⟨i + 1, by go_num, by omega, by trivial, HX⟩
            case measure => simp [intOf]; omega
          · obtain rfl : z = false := (show z = _ from HZ).trans (dc_f (fun h => hx (h.2.1.2 i hi)))
            have hxI : (4000 : Int) < ((L i).size : Int) := by omega
            have HKK : Hid (Kb 0 w w0) := HK
            clear HI hra hx HZ HA HL HK HB
            generalize L i = x at *
            go_wp2_with fail
            go_ret
            exact ⟨rfl, HKK⟩
        · obtain rfl : i = q := by omega
          have HB2 : Hid (Lns i L) := (⟨HQ.2, HI⟩ : _ ∧ _)
          clear HB HL HI hin hi HQ
          have HB := HB2
          clear HB2
          by_cases tT : 0 ≤ T
          case neg =>
            obtain rfl : z = false := (show z = _ from HZ).trans (dc_f (fun h => tT h.2.2.1))
            clear HZ HA HB
            go_wp2_with fail
            all_goals (go_ret; exact ⟨rfl, HK⟩)
          by_cases uT : T ≤ 5000
          case neg =>
            obtain rfl : z = false := (show z = _ from HZ).trans (dc_f (fun h => uT h.2.2.2.1))
            clear HZ HA HB
            go_wp2_with fail
            all_goals (go_ret; exact ⟨rfl, HK⟩)
          by_cases tD : 1 ≤ D
          case neg =>
            obtain rfl : z = false := (show z = _ from HZ).trans (dc_f (fun h => tD h.2.2.2.2.1))
            clear HZ HA HB
            go_wp2_with fail
            all_goals (go_ret; exact ⟨rfl, HK⟩)
          by_cases uD : D ≤ 60
          case neg =>
            obtain rfl : z = false := (show z = _ from HZ).trans (dc_f (fun h => uD h.2.2.2.2.2.1))
            clear HZ HA HB
            go_wp2_with fail
            all_goals (go_ret; exact ⟨rfl, HK⟩)
          by_cases tC : 0 ≤ C
          case neg =>
            obtain rfl : z = false := (show z = _ from HZ).trans (dc_f (fun h => tC h.2.2.2.2.2.2.1))
            clear HZ HA HB
            go_wp2_with fail
            all_goals (go_ret; exact ⟨rfl, HK⟩)
          by_cases uC : C ≤ 20000
          case neg =>
            obtain rfl : z = false := (show z = _ from HZ).trans (dc_f (fun h => uC h.2.2.2.2.2.2.2))
            clear HZ HA HB
            go_wp2_with fail
            all_goals (go_ret; exact ⟨rfl, HK⟩)
          obtain rfl : z = true := (show z = _ from HZ).trans (dc_t ⟨HA, HB, tT, uT, tD, uD, tC, uC⟩)
          clear HZ HA HB
          go_wp2_with fail
          all_goals (go_ret; exact ⟨rfl, HK⟩)
end Go.Proofs.Ytieccnkabllamaa.Fo
