import Derived.Test.YtogenhnonjkanaaDoorSai
namespace Go.Proofs.YtogenhnonjkanaaDoor
open Go.ChangeShapes Go.WideShapes Go.ChangeAt Go.RowKit
set_option linter.unusedVariables false
def opsL : List (List UInt8) := [[], [43], [45], [42], [47], [47, 47], [37], [38], [124], [126], [60, 60], [62, 62], [46, 46], [61, 61], [126, 61], [60], [60, 61], [62], [62, 61]]
def opsB (i : Nat) : ByteArray := ⟨(opsL.getD i []).toArray⟩
def opsA : Array Value := (opsL.map (fun x => Value.string ⟨x.toArray⟩)).toArray
theorem ops_len : opsL.length = 19 := by decide
theorem ops_size : opsA.size = 19 := by simp [opsA, ops_len]
theorem ops_get (i : Nat) (hi : i < 19) : opsA[i]? = some (.string (opsB i)) := by
  have h : i < opsL.length := by rw [ops_len]; exact hi
  simp [opsA, opsB, List.getElem?_eq_getElem h]
theorem ops_list (i : Nat) : (opsB i).data.toList = opsL.getD i [] := by simp [opsB]
def sgnL : List (List UInt8) := [[46, 46, 46], [46, 46], [46], [60, 60], [60, 61], [60], [62, 62], [62, 61], [62], [61, 61], [61], [126, 61], [126], [47, 47], [47], [40], [41], [123], [125], [91], [93], [44], [59], [35], [43], [45], [42], [37], [38], [124]]
def sgnB (i : Nat) : ByteArray := ⟨(sgnL.getD i []).toArray⟩
def sgnA : Array Value := (sgnL.map (fun x => Value.string ⟨x.toArray⟩)).toArray
theorem sgn_len : sgnL.length = 30 := by decide
theorem sgn_size : sgnA.size = 30 := by simp [sgnA, sgn_len]
theorem sgn_get (i : Nat) (hi : i < 30) : sgnA[i]? = some (.string (sgnB i)) := by
  have h : i < sgnL.length := by rw [sgn_len]; exact hi
  simp [sgnA, sgnB, List.getElem?_eq_getElem h]
theorem sgn_list (i : Nat) : (sgnB i).data.toList = sgnL.getD i [] := by simp [sgnB]

/-- the first among N that is the text, N where none is -/
def Fm (f : Nat → ByteArray) (N : Nat) (S : ByteArray) (m : Nat) : Prop := m ≤ N ∧ (∀ j, j < m → ((f j).toList == S.toList) = false) ∧ (m = N ∨ ((f m).toList == S.toList) = true)
theorem fm_any (f : Nat → ByteArray) (N : Nat) (S : ByteArray) : ∃ m, Fm f N S m := by
  have key : ∀ n, n ≤ N → (∃ m, m < n ∧ (∀ j, j < m → ((f j).toList == S.toList) = false) ∧ ((f m).toList == S.toList) = true) ∨ (∀ j, j < n → ((f j).toList == S.toList) = false) := by
    intro n
    induction n with
    | zero => intro _; right; intro j hj; omega
    | succ n ih =>
      intro hn
      rcases ih (by omega) with ⟨m, h1, h2, h3⟩ | h
      · left; exact ⟨m, by omega, h2, h3⟩
      · cases hc : ((f n).toList == S.toList) with
        | true => left; exact ⟨n, by omega, h, hc⟩
        | false =>
          right
          intro j hj
          by_cases e : j = n
          · subst e; exact hc
          · exact h j (by omega)
  rcases key N (Nat.le_refl _) with ⟨m, h1, h2, h3⟩ | h
  · exact ⟨m, by omega, h2, .inr h3⟩
  · exact ⟨N, Nat.le_refl _, h, .inl rfl⟩
theorem ops_infix (j : Nat) : opsB (j + 1) = infixB j := by
  unfold opsB infixB
  rfl
/-- what the model's sign answers, what the program's -/
def kS (a b : Nat) : Int := if a < 18 then 61 + a else if b < 11 then 40 + b else 5
def kI (s1 s2 : Bool) (a b : Nat) : Int := if s1 then 5 else if s2 then 7 else if b < 11 then 40 + b else if a < 18 then 61 + a else 0
theorem bel2 (w : World) (a b : Obj) : Below w.heap.size w ((w.alloc a).alloc b) := ((Below.refl _ w).alloc (Nat.le_refl _) _).alloc (by simp) _
theorem spec_signs (w : World) : Calls Tryd.prog 36 #[] w fun e w' => e = .returned (.slice (some ⟨w.heap.size, 0, none⟩) 30 30) ∧ w' = w.alloc (.cells sgnA 9) := by
  go_enter Tryd.func36, Tryd.ntmps36
  go_wp2
  go_ret
  exact ⟨rfl, rfl⟩
theorem opsA_lit : opsA = #[.string ⟨#[]⟩, .string ⟨#[43]⟩, .string ⟨#[45]⟩, .string ⟨#[42]⟩, .string ⟨#[47]⟩, .string ⟨#[47, 47]⟩, .string ⟨#[37]⟩, .string ⟨#[38]⟩, .string ⟨#[124]⟩, .string ⟨#[126]⟩, .string ⟨#[60, 60]⟩, .string ⟨#[62, 62]⟩, .string ⟨#[46, 46]⟩, .string ⟨#[61, 61]⟩, .string ⟨#[126, 61]⟩, .string ⟨#[60]⟩, .string ⟨#[60, 61]⟩, .string ⟨#[62]⟩, .string ⟨#[62, 61]⟩] := rfl
theorem marksA_lit : marksA = #[.string ⟨#[40]⟩, .string ⟨#[41]⟩, .string ⟨#[123]⟩, .string ⟨#[125]⟩, .string ⟨#[91]⟩, .string ⟨#[93]⟩, .string ⟨#[44]⟩, .string ⟨#[61]⟩, .string ⟨#[46]⟩, .string ⟨#[46, 46, 46]⟩, .string ⟨#[35]⟩] := rfl
set_option maxRecDepth 100000 in
set_option maxHeartbeats 2000000 in
theorem spec_sign (S : ByteArray) (a b : Nat) (ha : Fm infixB 18 S a) (hb : Fm marksB 11 S b) (w : World) :
    Calls Tryd.prog 37 #[.string S] w fun e w' => e = .returned (.int .i64 (kS a b)) ∧ Below w.heap.size w w' := by
  have HA : Hid (Fm infixB 18 S a) := ha
  have HB : Hid (Fm marksB 11 S b) := hb
  clear ha hb
  go_enter Tryd.func37, Tryd.ntmps37
  go_wp2_with fail
  rw [← opsA_lit]
  go_wp2_with fail
  go_loop [4] (fun v => ∃ i : Nat, v = .int .i64 ((i + 1 : Nat) : Int) ∧ i ≤ a) (fun v => 19 - (intOf v).toNat)
  case atStart => exact ⟨0, rfl, Nat.zero_le _⟩
  case round =>
    obtain ⟨i, rfl, hia⟩ := hrel
    obtain ⟨h18, hneq, hlast⟩ := (show Fm infixB 18 S a from HA)
    by_cases hi : i < a
    · have hc := hneq i hi
      have hg := ops_get (i + 1) (by omega)
      rw [ops_infix] at hg
      have hi18 : (i : Int) + 1 < 19 := by omega
      clear HA HB hneq hlast
      generalize infixB i = X at *
      go_wp2_with fail
      refine ⟨⟨i + 1, by go_num, by omega⟩, ?_⟩
      simp [intOf]; omega
    · obtain rfl : i = a := by omega
      by_cases h : i = 18
      · have hn : ¬ (i : Int) + 1 < 19 := by omega
        obtain ⟨h11, hneqb, hlastb⟩ := (show Fm marksB 11 S b from HB)
        have HNB : Hid (∀ j, j < b → ((marksB j).toList == S.toList) = false) := hneqb
        have HLB : Hid (b = 11 ∨ ((marksB b).toList == S.toList) = true) := hlastb
        have HK : Hid (kS i b = if b < 11 then 40 + (b : Int) else 5) := by show kS i b = _; unfold kS; rw [if_neg (by omega)]
        clear HA HB hneq hlast hneqb hlastb h
        go_wp2_with fail
        rw [← marksA_lit]
        go_wp2_with fail
        go_loop [26] (fun v => ∃ j : Nat, v = .int .i64 j ∧ j ≤ b) (fun v => 11 - (intOf v).toNat)
        case atStart => exact ⟨0, rfl, Nat.zero_le _⟩
        case round =>
          obtain ⟨j, rfl, hjb⟩ := hrel
          by_cases hj : j < b
          · have hc := (show ∀ j, j < b → ((marksB j).toList == S.toList) = false from HNB) j hj
            have hg := marks_get j (by omega)
            have hj11 : (j : Int) < 11 := by omega
            clear HNB HLB HK
            generalize marksB j = X at *
            go_wp2_with fail
            refine ⟨⟨j + 1, by go_num, by omega⟩, ?_⟩
            simp [intOf]; omega
          · obtain rfl : j = b := by omega
            by_cases hb11 : j = 11
            · have hn2 : ¬ (j : Int) < 11 := by omega
              have HK2 : Hid (kS i j = 5) := by show kS i j = 5; rw [show kS i j = if j < 11 then 40 + (j : Int) else 5 from HK, if_neg (by omega)]
              clear HNB HLB HK hb11
              go_wp2_with fail
              go_ret
              exact ⟨by rw [show kS i j = 5 from HK2]; rfl, bel2 w _ _⟩
            · have hc := (show j = 11 ∨ ((marksB j).toList == S.toList) = true from HLB).resolve_left hb11
              have hg := marks_get j (by omega)
              have hj11 : (j : Int) < 11 := by omega
              have HK2 : Hid (kS i j = 40 + (j : Int)) := by show kS i j = _; rw [show kS i j = if j < 11 then 40 + (j : Int) else 5 from HK, if_pos (by omega)]
              clear HNB HLB HK
              generalize marksB j = X at *
              go_wp2_with fail
              go_ret
              exact ⟨by rw [show kS i j = 40 + (j : Int) from HK2]; rfl, bel2 w _ _⟩
      · have hc := hlast.resolve_left h
        have hg := ops_get (i + 1) (by omega)
        rw [ops_infix] at hg
        have hi18 : (i : Int) + 1 < 19 := by omega
        have HK2 : Hid (kS i b = 60 + ((i : Int) + 1)) := by show kS i b = _; unfold kS; rw [if_pos (by omega)]; omega
        clear HA HB hneq hlast
        generalize infixB i = X at *
        go_wp2_with fail
        go_ret
        exact ⟨by rw [show kS i b = 60 + ((i : Int) + 1) from HK2]; rfl, (Below.refl _ w).alloc (Nat.le_refl _) _⟩
set_option maxRecDepth 100000 in
set_option maxHeartbeats 2000000 in
theorem impl_sign (S : ByteArray) (s1 s2 : Bool) (h1 : (S.toList == [59]) = s1) (h2 : (S.toList == [10]) = s2) (a b : Nat) (ha : Fm infixB 18 S a) (hb : Fm marksB 11 S b) (w : World) (hg : Gd w) :
    Calls Tryd.prog 82 #[.string S] w fun e w' => e = .returned (.int .i64 (kI s1 s2 a b)) ∧ w' = w := by
  have HA : Hid (Fm infixB 18 S a) := ha
  have HB : Hid (Fm marksB 11 S b) := hb
  have HR1 : Hid (w.rangeAt 1 0 marksA.toList) := hg.marks
  have HR2 : Hid (w.rangeAt 2 0 infixA.toList) := hg.infx
  clear ha hb hg
  cases s1 with
  | true =>
    show Calls Tryd.prog 82 #[.string S] w fun e w' => e = .returned (.int .i64 5) ∧ w' = w
    clear HA HB HR1 HR2 h2
    go_enter Tryd.func82, Tryd.ntmps82
    go_wp2_with fail
    go_ret
    exact ⟨rfl, rfl⟩
  | false =>
    cases s2 with
    | true =>
      show Calls Tryd.prog 82 #[.string S] w fun e w' => e = .returned (.int .i64 7) ∧ w' = w
      clear HA HB HR1 HR2
      go_enter Tryd.func82, Tryd.ntmps82
      go_wp2_with fail
      go_ret
      exact ⟨rfl, rfl⟩
    | false =>
      have HK : Hid (kI false false a b = if b < 11 then 40 + (b : Int) else if a < 18 then 61 + (a : Int) else 0) := rfl
      go_enter Tryd.func82, Tryd.ntmps82
      go_wp2_with (refine wpList_load_mid rfl 80 (.global 1) rfl 1 0 rfl marksA.toList _ HR1 Tryd.underlying80 rfl (by kernel_rfl) ?_)
      clear HR1 h1 h2
      obtain ⟨h11, hneqb, hlastb⟩ := (show Fm marksB 11 S b from HB)
      have HNB : Hid (∀ j, j < b → ((marksB j).toList == S.toList) = false) := hneqb
      have HLB : Hid (b = 11 ∨ ((marksB b).toList == S.toList) = true) := hlastb
      clear HB hneqb hlastb
      go_loop [13] (fun v => ∃ j : Nat, v = .int .i64 j ∧ j ≤ b) (fun v => 11 - (intOf v).toNat)
      case atStart => exact ⟨0, rfl, Nat.zero_le _⟩
      case round =>
        obtain ⟨j, rfl, hjb⟩ := hrel
        by_cases hj : j < b
        · have hc := (show ∀ j, j < b → ((marksB j).toList == S.toList) = false from HNB) j hj
          have hgi := tab_index 80 11 marksA Tryd.underlying80 j (by omega) _ (marks_get j (by omega))
          have hj11 : (j : Int) < 11 := by omega
          clear HNB HLB HK HA HR2
          generalize marksB j = X at *
          go_wp2_with fail
          refine ⟨⟨j + 1, by go_num, by omega⟩, ?_⟩
          simp [intOf]; omega
        · obtain rfl : j = b := by omega
          by_cases hb11 : j = 11
          · have hn2 : ¬ (j : Int) < 11 := by omega
            have HK2 : Hid (kI false false a j = if a < 18 then 61 + (a : Int) else 0) := by show kI false false a j = _; rw [show kI false false a j = if j < 11 then 40 + (j : Int) else if a < 18 then 61 + (a : Int) else 0 from HK, if_neg (by omega)]
            clear HNB HLB HK hb11
            go_wp2_with (refine wpList_load_mid rfl 81 (.global 2) rfl 2 0 rfl infixA.toList _ HR2 Tryd.underlying81 rfl (by kernel_rfl) ?_)
            clear HR2
            obtain ⟨h18, hneq, hlast⟩ := (show Fm infixB 18 S a from HA)
            have HNA : Hid (∀ j, j < a → ((infixB j).toList == S.toList) = false) := hneq
            have HLA : Hid (a = 18 ∨ ((infixB a).toList == S.toList) = true) := hlast
            clear HA hneq hlast
            go_loop [24] (fun v => ∃ i : Nat, v = .int .i64 i ∧ i ≤ a) (fun v => 18 - (intOf v).toNat)
            case atStart => exact ⟨0, rfl, Nat.zero_le _⟩
            case round =>
              obtain ⟨i, rfl, hia⟩ := hrel
              by_cases hi : i < a
              · have hc := (show ∀ j, j < a → ((infixB j).toList == S.toList) = false from HNA) i hi
                have hgi := tab_index 81 18 infixA Tryd.underlying81 i (by omega) _ (infix_get i (by omega))
                have hi18 : (i : Int) < 18 := by omega
                clear HNA HLA HK2
                generalize infixB i = X at *
                go_wp2_with fail
                refine ⟨⟨i + 1, by go_num, by omega⟩, ?_⟩
                simp [intOf]; omega
              · obtain rfl : i = a := by omega
                by_cases hi18e : i = 18
                · have hn3 : ¬ (i : Int) < 18 := by omega
                  have HK3 : Hid (kI false false i j = 0) := by show kI false false i j = 0; rw [show kI false false i j = if i < 18 then 61 + (i : Int) else 0 from HK2, if_neg (by omega)]
                  clear HNA HLA HK2 hi18e
                  go_wp2_with fail
                  go_ret
                  exact ⟨by rw [show kI false false i j = 0 from HK3]; rfl, rfl⟩
                · have hc := (show i = 18 ∨ ((infixB i).toList == S.toList) = true from HLA).resolve_left hi18e
                  have hgi := tab_index 81 18 infixA Tryd.underlying81 i (by omega) _ (infix_get i (by omega))
                  have hi18 : (i : Int) < 18 := by omega
                  have HK3 : Hid (kI false false i j = 61 + (i : Int)) := by show kI false false i j = _; rw [show kI false false i j = if i < 18 then 61 + (i : Int) else 0 from HK2, if_pos (by omega)]
                  clear HNA HLA HK2
                  generalize infixB i = X at *
                  go_wp2_with fail
                  go_ret
                  exact ⟨by rw [show kI false false i j = 61 + (i : Int) from HK3]; rfl, rfl⟩
          · have hc := (show j = 11 ∨ ((marksB j).toList == S.toList) = true from HLB).resolve_left hb11
            have hgi := tab_index 80 11 marksA Tryd.underlying80 j (by omega) _ (marks_get j (by omega))
            have hj11 : (j : Int) < 11 := by omega
            have HK2 : Hid (kI false false a j = 40 + (j : Int)) := by show kI false false a j = _; rw [show kI false false a j = if j < 11 then 40 + (j : Int) else if a < 18 then 61 + (a : Int) else 0 from HK, if_pos (by omega)]
            clear HNB HLB HK HA HR2
            generalize marksB j = X at *
            go_wp2_with fail
            go_ret
            exact ⟨by rw [show kI false false a j = 40 + (j : Int) from HK2]; rfl, rfl⟩
end Go.Proofs.YtogenhnonjkanaaDoor
