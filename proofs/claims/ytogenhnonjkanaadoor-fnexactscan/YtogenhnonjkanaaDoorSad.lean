import Derived.Test.YtogenhnonjkanaaDoorSac
namespace Go.Proofs.YtogenhnonjkanaaDoor
open Go.ChangeShapes Go.WideShapes Go.ChangeAt Go.RowKit
set_option linter.unusedVariables false
/-- each byte of the text can be read -/
def IxAll (T : ByteArray) (L : List UInt8) : Prop := ∀ (k : Nat) (c : UInt8), L[k]? = some c → ∀ w : World, (Instr.index 9 (.string T) (.int .i64 (k : Int))).run Tryd.prog w = .ok (.int .u8 (c.toNat : Int)) w
def LkAll (T : ByteArray) (L : List UInt8) : Prop := ∀ (k : Nat) (w : World), Calls Tryd.prog 30 #[.string T, .int .i64 (k : Int)] w fun e w' => e = .returned (.int .u8 ((lk L k).toNat : Int)) ∧ w' = w
theorem nat_bne {x : UInt8} {n : Nat} (h : ¬ x.toNat = n) : ((x.toNat : Int) != (n : Int)) = true := by simp; omega
theorem nat_ne {x : UInt8} {n : Nat} (h : ¬ x.toNat = n) : ((x.toNat : Int) == (n : Int)) = false := by simp; omega
set_option maxRecDepth 100000 in
set_option maxHeartbeats 1000000 in
theorem spec_blanks (T : ByteArray) (L : List UInt8) (hT : T.data.toList = L) (hlen : L.length ≤ 65536) (k : Nat) (hk : k ≤ L.length) (w : World) :
    Calls Tryd.prog 14 #[.string T, .int .i64 (k : Int)] w fun e w' => e = .returned (.int .i64 (bl L k : Int)) ∧ w' = w := by
  have hs : T.size = L.length := by rw [← hT]; simp
  have HX : IxAll T L := fun j c hj => ix T L hT j c hj
  have HL : LkAll T L := fun j => spec_look T L hT j
  obtain ⟨M, hM, hLM⟩ : ∃ M : Int, M ≤ 65536 ∧ (L.length : Int) ≤ M := ⟨L.length, by omega, Int.le_refl _⟩
  clear hT hlen
  go_enter Tryd.func14, Tryd.ntmps14
  go_wp2_with fail
  go_loop [1] (fun a => ∃ j : Nat, a = .int .i64 j ∧ j ≤ L.length ∧ Hid (bl L k = bl L j)) (fun a => L.length - (intOf a).toNat)
  case atStart => exact ⟨k, rfl, hk, (rfl : bl L k = bl L k)⟩
  case round =>
    obtain ⟨j, rfl, hj, HB⟩ := hrel
    have hB := (show bl L k = bl L j from HB)
    by_cases hjn : j < L.length
    · have hx := List.getElem?_eq_getElem hjn
      have hix := HX j _ hx
      have hjI : (j : Int) < M := by omega
      generalize L[j] = x at hx hix
      by_cases hb : x.toNat = 32 ∨ x.toNat = 9 ∨ x.toNat = 13
      · have HN : Hid (bl L k = bl L (j + 1)) := (hB.trans (bl_blank hx hb) : bl L k = bl L (j + 1))
        clear hB HB HL HX hx
        rcases hb with hb | hb | hb
        all_goals
          have hxi : (x.toNat : Int) = ((x.toNat : Nat) : Int) := rfl
          rw [hb] at hix
          clear hxi hb
          go_wp2_with fail
          refine ⟨⟨j + 1, by go_num, by omega, HN⟩, ?_⟩
          simp [intOf]; omega
      · have n32 : ((x.toNat : Int) == 32) = false := nat_ne (n := 32) (by omega)
        have n9 : ((x.toNat : Int) == 9) = false := nat_ne (n := 9) (by omega)
        have n13 : ((x.toNat : Int) == 13) = false := nat_ne (n := 13) (by omega)
        by_cases h45 : x.toNat = 45
        · have hl := HL (j + 1)
          by_cases h2 : L[j + 1]? = some 45
          · rw [lk_some h2] at hl
            have hx45 : x = 45 := UInt8.toNat_inj.1 h45
            subst hx45
            obtain ⟨r1, r2, r3⟩ := bl_remark hx h2
            have hr4 := rem_le L j hj
            have HN : Hid (bl L k = bl L (rem L j)) := (hB.trans (r1.trans r2.symm) : bl L k = bl L (rem L j))
            have hl' : ∀ w, Calls Tryd.prog 30 #[.string T, .int .i64 ((j : Int) + 1)] w fun e w' => e = .returned (.int .u8 45) ∧ w' = w := hl
            clear hB HB HL hx h2 r1 r2 hl hb h45
            have hix' : ∀ w, (Instr.index 9 (.string T) (.int .i64 (j : Int))).run Tryd.prog w = .ok (.int .u8 45) w := hix
            clear hix
            go_wp2_with fail
            refine (hl' _).mono ?_
            rintro e w1 ⟨rfl, rfl⟩
            clear hl'
            go_wp2_with fail
            clear hix'
            go_loop [1] (fun a => ∃ i : Nat, a = .int .i64 i ∧ j ≤ i ∧ i ≤ L.length ∧ Hid (rem L j = rem L i)) (fun a => L.length - (intOf a).toNat)
            case atStart => exact ⟨j, rfl, Nat.le_refl _, hj, (rfl : rem L j = rem L j)⟩
            case round =>
              obtain ⟨i, rfl, hji, hi, HR⟩ := hrel
              have hR := (show rem L j = rem L i from HR)
              by_cases hin : i < L.length
              · have hy := List.getElem?_eq_getElem hin
                have hiy := HX i _ hy
                have hiI : (i : Int) < M := by omega
                generalize L[i] = y at hy hiy
                by_cases h10 : y.toNat = 10
                · have e : rem L j = i := hR.trans (rem_nl hy h10)
                  have HN2 : Hid (bl L k = bl L i) := by rw [← e]; exact HN
                  have hjlt : j < i := by omega
                  rw [h10] at hiy
                  clear HX hR HR HN r3 hr4 e hy h10
                  go_wp2_with fail
                  refine ⟨⟨i, rfl, by omega, HN2⟩, ?_⟩
                  simp [intOf]; omega
                · have HN2 : Hid (rem L j = rem L (i + 1)) := (hR.trans (rem_step hy h10) : rem L j = rem L (i + 1))
                  have n10 : ((y.toNat : Int) != 10) = true := nat_bne (n := 10) h10
                  clear HX hR HR HN r3 hr4 hy h10
                  generalize (y.toNat : Int) = yi at *
                  go_wp2_with fail
                  refine ⟨⟨i + 1, by go_num, by omega, by omega, HN2⟩, ?_⟩
                  simp [intOf]; omega
              · have e : rem L j = i := hR.trans (rem_end (by omega))
                have HN2 : Hid (bl L k = bl L i) := by rw [← e]; exact HN
                have hjlt : j < i := by omega
                have hnl : ¬ (i : Int) < (T.size : Int) := by omega
                clear HX hR HR HN r3 hr4 e
                go_wp2_with fail
                refine ⟨⟨i, rfl, by omega, HN2⟩, ?_⟩
                simp [intOf]; omega
          · have e : bl L k = j := hB.trans (bl_other hx hb (fun h => h2 h.2))
            have hne : (((lk L (j + 1)).toNat : Int) != 45) = true := by
              apply nat_bne (n := 45)
              intro g
              apply h2
              cases hq : L[j + 1]? with
              | none => rw [lk_none (List.getElem?_eq_none_iff.1 hq)] at g; simp at g
              | some y => rw [lk_some hq] at g; rw [UInt8.toNat_inj.1 (show y.toNat = (45 : UInt8).toNat from g)]
            have hl' : ∀ w, Calls Tryd.prog 30 #[.string T, .int .i64 ((j : Int) + 1)] w fun e w' => e = .returned (.int .u8 ((lk L (j + 1)).toNat : Int)) ∧ w' = w := hl
            have HE : Hid (bl L k = j) := e
            rw [h45] at hix
            clear hB HB HL HX hl hx h2 hb h45 n32 n9 n13 e
            generalize ((lk L (j + 1)).toNat : Int) = yi at *
            go_wp2_with fail
            refine (hl' _).mono ?_
            rintro e w1 ⟨rfl, rfl⟩
            clear hl'
            go_wp2_with fail
            go_ret
            exact ⟨by rw [show bl L k = j from HE]; rfl, rfl⟩
        · have e : bl L k = j := hB.trans (bl_other hx hb (fun h => h45 h.1))
          have n45 : ((x.toNat : Int) != 45) = true := nat_bne (n := 45) h45
          have HE : Hid (bl L k = j) := e
          clear hB HB HL HX hx hb h45 e
          generalize (x.toNat : Int) = xi at *
          go_wp2_with fail
          go_ret
          exact ⟨by rw [show bl L k = j from HE]; rfl, rfl⟩
    · have e : bl L k = j := hB.trans (bl_end (by omega))
      have HE : Hid (bl L k = j) := e
      have hnl : ¬ (j : Int) < (T.size : Int) := by omega
      clear hB HB HL HX e
      go_wp2_with fail
      go_ret
      exact ⟨by rw [show bl L k = j from HE]; rfl, rfl⟩
end Go.Proofs.YtogenhnonjkanaaDoor
