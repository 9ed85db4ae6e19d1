import Derived.Test.YtogenhnonjkanaaDoorMTkc
namespace Go.Proofs.YtogenhnonjkanaaDoor
open Go.ChangeShapes Go.WideShapes Go.ChangeAt Go.RowKit
set_option linter.unusedVariables false
/-- what a kind alone is written as -/
def spl (k : Int) : ByteArray :=
  if k = 5 then ⟨#[59]⟩ else if k = 7 then ⟨#[10]⟩ else if 10 ≤ k ∧ k ≤ 31 then wordsB (k - 10).toNat else if 40 ≤ k ∧ k ≤ 50 then marksB (k - 40).toNat else if 61 ≤ k ∧ k ≤ 78 then infixB (k - 61).toNat else ⟨#[]⟩
theorem gd_word {w : World} (h : Gd w) (i : Nat) (hi : i < 22) : w.cell? ⟨0, i, none⟩ = some (.string (wordsB i)) := by
  have := h.words i (.string (wordsB i)) (by have := words_get i hi; simpa using this)
  rw [Nat.zero_add] at this
  exact this
theorem gd_mark {w : World} (h : Gd w) (i : Nat) (hi : i < 11) : w.cell? ⟨1, i, none⟩ = some (.string (marksB i)) := by
  have := h.marks i (.string (marksB i)) (by have := marks_get i hi; simpa using this)
  rw [Nat.zero_add] at this
  exact this
theorem gd_infix {w : World} (h : Gd w) (i : Nat) (hi : i < 18) : w.cell? ⟨2, i, none⟩ = some (.string (infixB i)) := by
  have := h.infx i (.string (infixB i)) (by have := infix_get i hi; simpa using this)
  rw [Nat.zero_add] at this
  exact this
set_option maxRecDepth 100000 in
set_option maxHeartbeats 4000000 in
theorem impl_spell (k : Int) (w : World) (hg : Gd w) : Calls Tryd.prog 29 #[.int .i64 k] w fun e w' => e = .returned (.string (spl k)) ∧ w' = w := by
  by_cases h5 : k = 5
  · have e : spl k = ⟨#[59]⟩ := by unfold spl; rw [if_pos h5]
    rw [e]
    subst h5
    clear e
    go_enter Tryd.func29, Tryd.ntmps29
    go_wp2_with fail
    go_ret
    exact ⟨rfl, rfl⟩
  · have n5 : (k == 5) = false := by simpa using h5
    by_cases h7 : k = 7
    · have e : spl k = ⟨#[10]⟩ := by unfold spl; rw [if_neg h5, if_pos h7]
      rw [e]
      subst h7
      clear e
      go_enter Tryd.func29, Tryd.ntmps29
      go_wp2_with fail
      go_ret
      exact ⟨rfl, rfl⟩
    · have n7 : (k == 7) = false := by simpa using h7
      by_cases hw : 10 ≤ k ∧ k ≤ 31
      · obtain ⟨i, hi⟩ : ∃ i : Nat, k = (i : Int) + 10 := ⟨(k - 10).toNat, by omega⟩
        have e : spl k = wordsB i := by unfold spl; rw [if_neg h5, if_neg h7, if_pos hw]; congr 1; omega
        rw [e]
        have hc := gd_word hg i (by omega)
        have hiI : (i : Int) < 22 := by omega
        subst hi
        clear e h5 h7 hw hg
        have a1 : (10 : Int) ≤ (i : Int) + 10 := by omega
        have a2 : (i : Int) + 10 ≤ 31 := by omega
        generalize wordsB i = X at *
        go_enter Tryd.func29, Tryd.ntmps29
        go_wp2_with fail
        go_ret
        exact ⟨rfl, rfl⟩
      · have hw2 : (¬ (10 : Int) ≤ k) ∨ ((10 : Int) ≤ k ∧ ¬ k ≤ 31) := by omega
        by_cases hm : 40 ≤ k ∧ k ≤ 50
        · obtain ⟨i, hi⟩ : ∃ i : Nat, k = (i : Int) + 40 := ⟨(k - 40).toNat, by omega⟩
          have e : spl k = marksB i := by unfold spl; rw [if_neg h5, if_neg h7, if_neg hw, if_pos hm]; congr 1; omega
          rw [e]
          have hc := gd_mark hg i (by omega)
          have hiI : (i : Int) < 11 := by omega
          subst hi
          clear e h5 h7 hw hg hw2 hm
          have a0 : (10 : Int) ≤ (i : Int) + 40 := by omega
          have a1 : ¬ (i : Int) + 40 ≤ 31 := by omega
          have a2 : (40 : Int) ≤ (i : Int) + 40 := by omega
          have a3 : (i : Int) + 40 ≤ 50 := by omega
          generalize marksB i = X at *
          go_enter Tryd.func29, Tryd.ntmps29
          go_wp2_with fail
          go_ret
          exact ⟨rfl, rfl⟩
        · by_cases hx : 61 ≤ k ∧ k ≤ 78
          · obtain ⟨i, hi⟩ : ∃ i : Nat, k = (i : Int) + 61 := ⟨(k - 61).toNat, by omega⟩
            have e : spl k = infixB i := by unfold spl; rw [if_neg h5, if_neg h7, if_neg hw, if_neg hm, if_pos hx]; congr 1; omega
            rw [e]
            have hc := gd_infix hg i (by omega)
            have hiI : (i : Int) < 18 := by omega
            subst hi
            clear e h5 h7 hw hg hw2 hm hx
            have a0 : (10 : Int) ≤ (i : Int) + 61 := by omega
            have a1 : ¬ (i : Int) + 61 ≤ 31 := by omega
            have a2 : (40 : Int) ≤ (i : Int) + 61 := by omega
            have a3 : ¬ (i : Int) + 61 ≤ 50 := by omega
            have a4 : (60 : Int) < (i : Int) + 61 := by omega
            have a5 : (i : Int) + 61 ≤ 78 := by omega
            generalize infixB i = X at *
            go_enter Tryd.func29, Tryd.ntmps29
            go_wp2_with fail
            go_ret
            exact ⟨rfl, rfl⟩
          · have e : spl k = ⟨#[]⟩ := by unfold spl; rw [if_neg h5, if_neg h7, if_neg hw, if_neg hm, if_neg hx]
            rw [e]
            have hm2 : (¬ (40 : Int) ≤ k) ∨ ((40 : Int) ≤ k ∧ ¬ k ≤ 50) := by omega
            have hx2 : (¬ (60 : Int) < k) ∨ ((60 : Int) < k ∧ ¬ k ≤ 78) := by omega
            clear e h5 h7 hw hg hm hx
            rcases hw2 with w1 | ⟨w1, w2⟩ <;> rcases hm2 with m1 | ⟨m1, m2⟩ <;> rcases hx2 with x1 | ⟨x1, x2⟩
            all_goals
              go_enter Tryd.func29, Tryd.ntmps29
              go_wp2_with fail
              go_ret
              exact ⟨rfl, rfl⟩
theorem spl_sign : ∀ m : Fin 30, spl (ssv (sgnL.getD m.val [])) = sgnB m.val := by decide +kernel
theorem mark_sign : ∀ b : Fin 11, ∃ m : Fin 30, ssv (sgnL.getD m.val []) = 40 + (b.val : Int) := by decide +kernel
theorem infix_sign : ∀ b : Fin 18, ∃ m : Fin 30, ssv (sgnL.getD m.val []) = 61 + (b.val : Int) := by decide +kernel
theorem sign_first (k : Int) : ∃ m, m ≤ 30 ∧ (∀ j, j < m → ssv (sgnL.getD j []) ≠ k) ∧ (m = 30 ∨ ssv (sgnL.getD m []) = k) := by
  have key : ∀ n, n ≤ 30 → (∃ m, m < n ∧ (∀ j, j < m → ssv (sgnL.getD j []) ≠ k) ∧ ssv (sgnL.getD m []) = k) ∨ (∀ j, j < n → ssv (sgnL.getD j []) ≠ k) := by
    intro n
    induction n with
    | zero => intro _; right; intro j hj; omega
    | succ n ih =>
      intro hn
      rcases ih (by omega) with ⟨m, h1, h2, h3⟩ | h
      · exact .inl ⟨m, by omega, h2, h3⟩
      · by_cases e : ssv (sgnL.getD n []) = k
        · exact .inl ⟨n, by omega, h, e⟩
        · right
          intro j hj
          by_cases ej : j = n
          · subst ej; exact e
          · exact h j (by omega)
  rcases key 30 (Nat.le_refl _) with ⟨m, h1, h2, h3⟩ | h
  · exact ⟨m, by omega, h2, .inr h3⟩
  · exact ⟨30, Nat.le_refl _, h, .inl rfl⟩
theorem wrd_cell (W : World) (i : Nat) (hi : i < 22) : (W.alloc (.cells wordsA 9)).cell? ⟨W.heap.size, i, none⟩ = some (.string (wordsB i)) := by
  have := words_get i hi
  simp [this]
set_option maxRecDepth 100000 in
set_option maxHeartbeats 4000000 in
theorem spec_text (k : Int) (h7 : k ≠ 7) (w : World) : Calls Tryd.prog 24 #[.int .i64 k] w fun e w' => e = .returned (.string (spl k)) ∧ Below w.heap.size w w' := by
  have hws := spec_words w
  by_cases h5 : k = 5
  · have e : spl k = ⟨#[59]⟩ := by unfold spl; rw [if_pos h5]
    rw [e]
    subst h5
    clear e
    go_enter Tryd.func24, Tryd.ntmps24
    go_wp2_with fail
    go_ret
    exact ⟨rfl, Below.refl _ _⟩
  · have n5 : (k == 5) = false := by simpa using h5
    have HB1 : Hid (Below w.heap.size w (w.alloc (.cells wordsA 9))) := (Below.refl _ w).alloc (Nat.le_refl _) _
    by_cases hw : 10 ≤ k ∧ k ≤ 31
    · obtain ⟨i, hi⟩ : ∃ i : Nat, k = (i : Int) + 10 := ⟨(k - 10).toNat, by omega⟩
      have e : spl k = wordsB i := by unfold spl; rw [if_neg h5, if_neg h7, if_pos hw]; congr 1; omega
      rw [e]
      have hc := wrd_cell w i (by omega)
      have hiI : (i : Int) < 22 := by omega
      obtain ⟨W1, hW1⟩ : ∃ W1, W1 = w.alloc (.cells wordsA 9) := ⟨_, rfl⟩
      rw [← hW1] at hc HB1 hws
      subst hi
      clear e h5 h7 hw hW1
      have a1 : (10 : Int) ≤ (i : Int) + 10 := by omega
      have a2 : (i : Int) + 10 < 32 := by omega
      generalize wordsB i = X at *
      go_enter Tryd.func24, Tryd.ntmps24
      go_wp2_with fail
      refine hws.mono ?_
      rintro e w1 ⟨rfl, hw1⟩
      rw [hw1]
      clear hws hw1
      go_wp2_with fail
      go_ret
      exact ⟨rfl, HB1⟩
    · have hw2 : (¬ (10 : Int) ≤ k) ∨ ((10 : Int) ≤ k ∧ ¬ k < 32) := by omega
      obtain ⟨W1, hW1⟩ : ∃ W1, W1 = w.alloc (.cells wordsA 9) := ⟨_, rfl⟩
      rw [← hW1] at HB1 hws
      have hsg := spec_signs W1
      obtain ⟨W2, hW2, HC2⟩ : ∃ W2, W2 = W1.alloc (.cells sgnA 9) ∧ Hid (∀ i, i < 30 → W2.cell? ⟨W1.heap.size, i, none⟩ = some (.string (sgnB i))) := ⟨_, rfl, (fun i hi => sgn_cell W1 i hi : ∀ i, i < 30 → _)⟩
      rw [← hW2] at hsg
      have HB2 : Hid (Below w.heap.size w W2) := by rw [hW2]; exact HB1.alloc HB1.size _
      have HW2 : Hid (W1.heap.size < W2.heap.size) := by rw [hW2]; show _ < _; simp
      obtain ⟨m, hm30, hne, hlast⟩ := sign_first k
      have HNE : Hid (∀ j, j < m → ssv (sgnL.getD j []) ≠ k) := hne
      have HF : Hid ((m = 30 ∧ spl k = ⟨#[]⟩) ∨ (m < 30 ∧ ssv (sgnL.getD m []) = k ∧ spl k = sgnB m)) := by
        by_cases e : m = 30
        · refine .inl ⟨e, ?_⟩
          unfold spl
          rw [if_neg h5, if_neg h7, if_neg hw, if_neg (fun g => ?_), if_neg (fun g => ?_)]
          · obtain ⟨j, hj⟩ := infix_sign ⟨(k - 61).toNat, by omega⟩
            exact hne j.val (by omega) (by rw [hj]; show (61 : Int) + (((k - 61).toNat : Nat) : Int) = k; omega)
          · obtain ⟨j, hj⟩ := mark_sign ⟨(k - 40).toNat, by omega⟩
            exact hne j.val (by omega) (by rw [hj]; show (40 : Int) + (((k - 40).toNat : Nat) : Int) = k; omega)
        · have h3 := hlast.resolve_left e
          refine .inr ⟨by omega, h3, ?_⟩
          have := spl_sign ⟨m, by omega⟩
          rw [show ssv (sgnL.getD (⟨m, by omega⟩ : Fin 30).val []) = k from h3] at this
          exact this
      clear h5 h7 hw hne hlast hW1 hW2 HB1
      rcases hw2 with w1 | ⟨w1, w2⟩
      all_goals
        go_enter Tryd.func24, Tryd.ntmps24
        go_wp2_with fail
        refine hws.mono ?_
        rintro e w1' ⟨rfl, hw1⟩
        rw [hw1]
        clear hw1
        go_wp2_with fail
        refine hsg.mono ?_
        rintro e w2' ⟨rfl, hw2⟩
        rw [hw2]
        clear hw2
        go_wp2_with fail
        go_loopw [25] (fun s wr => ∃ i : Nat, s = .int .i64 (i : Int) ∧ i ≤ m ∧ Hid (Below w.heap.size w wr ∧ wr.heap[W1.heap.size]? = W2.heap[W1.heap.size]? ∧ W1.heap.size < wr.heap.size)) (fun s _ => 30 - (intOf s).toNat)
        case atStart => exact ⟨0, rfl, Nat.zero_le _, (⟨HB2, rfl, HW2⟩ : _ ∧ _ ∧ _)⟩
        case round =>
          obtain ⟨i, rfl, him, HI⟩ := hrel
          obtain ⟨hB, hE, hL⟩ := (show Below w.heap.size w wr ∧ wr.heap[W1.heap.size]? = W2.heap[W1.heap.size]? ∧ W1.heap.size < wr.heap.size from HI)
          by_cases h30 : i < 30
          · have hcell : wr.cell? ⟨W1.heap.size, i, none⟩ = some (.string (sgnB i)) := by rw [World.cell?_of_block hE]; exact (show ∀ i, i < 30 → _ from HC2) i h30
            have hi30 : (i : Int) < 30 := by omega
            have hsr := spec_sign_run (sgnB i) wr
            have HN : Hid (∀ w3, Below wr.heap.size wr w3 → Below w.heap.size w w3 ∧ w3.heap[W1.heap.size]? = W2.heap[W1.heap.size]? ∧ W1.heap.size < w3.heap.size) :=
              (fun w3 hb => ⟨hB.trans (hb.mono hB.size), (hb.block _ hL).trans hE, Nat.lt_of_lt_of_le hL hb.size⟩ : ∀ w3, _)
            rw [sgn_list] at hsr
            by_cases him2 : i < m
            · have hk : (ssv (sgnL.getD i []) == k) = false := by simpa using (show ∀ j, j < m → ssv (sgnL.getD j []) ≠ k from HNE) i him2
              clear HI hB hE hL HC2 HNE HF
              generalize ssv (sgnL.getD i []) = sk at *
              generalize sgnB i = X at *
              go_wp2_with fail
              refine hsr.mono ?_
              rintro e w3 ⟨rfl, hb3⟩
              have hN := (show ∀ w3, Below wr.heap.size wr w3 → Below w.heap.size w w3 ∧ w3.heap[W1.heap.size]? = W2.heap[W1.heap.size]? ∧ W1.heap.size < w3.heap.size from HN) w3 hb3
              have HN2 : Hid (Below w.heap.size w w3 ∧ w3.heap[W1.heap.size]? = W2.heap[W1.heap.size]? ∧ W1.heap.size < w3.heap.size) := hN
              clear hsr hb3 HN hN
              go_wp2_with fail
              go_roundw
              case rel => exact ⟨i + 1, by go_num, by omega, HN2⟩
              case measure => simp [intOf]; omega
            · obtain rfl : i = m := by omega
              have hF : ssv (sgnL.getD i []) = k ∧ spl k = sgnB i := by
                rcases (show _ ∨ _ from HF) with ⟨h, _⟩ | ⟨_, h1, h2⟩
                · omega
                · exact ⟨h1, h2⟩
              rw [hF.1] at hsr
              have HFF : Hid (spl k = sgnB i) := hF.2
              clear HI hB hE hL HC2 HNE HF hF
              go_wp2_with fail
              refine hsr.mono ?_
              rintro e w3 ⟨rfl, hb3⟩
              have HN2 : Hid (Below w.heap.size w w3) := ((show ∀ w3, Below wr.heap.size wr w3 → Below w.heap.size w w3 ∧ w3.heap[W1.heap.size]? = W2.heap[W1.heap.size]? ∧ W1.heap.size < w3.heap.size from HN) w3 hb3).1
              clear hsr hb3 HN
              go_wp2_with fail
              go_ret
              exact ⟨by rw [show spl k = sgnB i from HFF]; rfl, HN2⟩
          · obtain rfl : i = 30 := by omega
            have hF : spl k = ⟨#[]⟩ := by
              rcases (show _ ∨ _ from HF) with ⟨_, h⟩ | ⟨h1, _⟩
              · exact h
              · omega
            have HFF : Hid (spl k = ⟨#[]⟩ ∧ Below w.heap.size w wr) := (⟨hF, hB⟩ : _ ∧ _)
            clear HI hB hE hL HC2 HNE HF hF
            go_wp2_with fail
            go_ret
            exact ⟨by rw [show spl k = ⟨#[]⟩ from HFF.1]; rfl, HFF.2⟩
end Go.Proofs.YtogenhnonjkanaaDoor
