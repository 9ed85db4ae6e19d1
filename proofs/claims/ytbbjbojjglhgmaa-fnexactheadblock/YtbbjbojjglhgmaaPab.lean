import Derived.Test.YtbbjbojjglhgmaaPaa
namespace Go.Proofs.Ytbbjbojjglhgmaa.Fo
open Go.ChangeShapes Go.WideShapes Go.ChangeAt Go.RowKit
set_option linter.unusedVariables false
set_option maxRecDepth 100000
theorem wrap_u64 (n : Int) : IntKind.u64.wrap n = n % 18446744073709551616 := by simp [IntKind.wrap, IntKind.signed, IntKind.bits]
theorem im_put1 {B wb : Nat} {W : World} {l : List Int} (hw : WS B wb l W) (b : Int) (h0 : 0 ≤ b) (h1 : b ≤ 255) :
    Calls Try.prog 104 #[.pointer (some ⟨wb, 0, none⟩), .slice (some ⟨W.heap.size, 0, none⟩) 1 1] (W.alloc (.cells #[.int .u8 b] 5)) (WP B wb W (l ++ [b])) := by
  have hlt : wb < W.heap.size := Nat.lt_of_lt_of_le hw.1 hw.2.1
  refine (im_put (c := 1) (ad := ⟨W.heap.size, 0, none⟩) [b] (hw.call (kb_alloc 0 W (.cells #[.int .u8 b] 5))) (by show W.heap.size ≠ _; omega) (fun j u hu => ?_) (by simp) (fun x hx => by rw [List.mem_singleton] at hx; subst hx; exact ⟨h0, h1⟩)).mono ?_
  · exact qr_cells W #[.int .u8 b] 5 _ rfl j u hu
  · rintro e w' ⟨h1, h2, h3⟩
    exact ⟨h1, h2, (Kw.of_kb (kb_alloc 0 W _)).trans h3⟩
set_option maxHeartbeats 4000000 in
theorem im_groups {B wb : Nat} {W : World} {l : List Int} (U : Nat) (hU : U < 18446744073709551616) (hw : WS B wb l W) :
    Calls Try.prog 162 #[.pointer (some ⟨wb, 0, none⟩), .int .u64 (U : Int)] W (WP B wb W (l ++ numb U)) := by
  have HW : Hid (WS B wb l W) := hw
  clear hw
  go_enter Try.func162, Try.ntmps162
  go_wp2_with fail
  go_loopw [1] (fun s1 wr => ∃ (u : Nat) (acc : List Int), s1 = .int .u64 (u : Int) ∧ (u : Int) < 18446744073709551616 ∧ Hid (WS B wb (l ++ acc) wr ∧ Kw B wb W wr ∧ numb U = acc ++ numb u)) (fun s1 _ => (intOf s1).toNat)
  case atStart => exact ⟨U, [], rfl, by omega, (⟨by rw [List.append_nil]; exact HW, Kw.refl _ _ _, rfl⟩ : _ ∧ _)⟩
  case round =>
    clear HW
    obtain ⟨u, acc, rfl, hu, HX⟩ := hrel
    obtain ⟨hw, hok, hvb⟩ := (show _ ∧ _ ∧ _ from HX)
    by_cases hc : u < 128
    · have hg : ¬ (128 : Int) ≤ (u : Int) := by omega
      have hcv : IntKind.u8.wrap (u : Int) = (u : Int) := by rw [wrap_u8]; omega
      have HC := im_put1 hw (u : Int) (by omega) (by omega)
      have HO : Hid (Kw B wb W wr ∧ l ++ numb U = (l ++ acc) ++ [(u : Int)]) := (⟨hok, by rw [hvb, numb_lt (by omega), List.append_assoc]⟩ : _ ∧ _)
      clear hw hok hvb HX hU hc
      go_wp2_with fail
      refine HC.mono ?_
      rintro e w2 ⟨rfl, y1, y2⟩
      obtain ⟨o1, o2⟩ := (show _ ∧ _ from HO)
      have HN : Hid (WS B wb (l ++ numb U) w2 ∧ Kw B wb W w2) := (⟨by rw [o2]; exact y1, o1.trans y2⟩ : _ ∧ _)
      clear HC y1 y2 HO o1 o2
      go_wp2_with fail
      exact ⟨rfl, .tuple #[], by simp [results, Try.results162], rfl, (show _ ∧ _ from HN).1, (show _ ∧ _ from HN).2⟩
    · have hg : (128 : Int) ≤ (u : Int) := by omega
      obtain ⟨r7, hr7⟩ : ∃ r7 : Int, r7 = (u : Int) % 128 := ⟨_, rfl⟩
      have hmod : Int.tmod (u : Int) 128 = r7 := by rw [hr7]; exact Int.tmod_eq_emod_of_nonneg (by omega)
      have hwr : IntKind.u64.wrap (128 + r7) = 128 + r7 := by rw [wrap_u64]; omega
      have hcv : IntKind.u8.wrap (128 + r7) = 128 + r7 := by rw [wrap_u8]; omega
      obtain ⟨u2, hu2⟩ : ∃ u2, u2 = u / 128 := ⟨_, rfl⟩
      have hdv : Int.tdiv (u : Int) 128 = (u2 : Int) := by rw [Int.tdiv_eq_ediv_of_nonneg (by omega)]; omega
      have hdv2 : (u : Int) / 128 = (u2 : Int) := by omega
      have hmod2 : (u : Int) % 128 = r7 := hr7.symm
      have HC := im_put1 hw (128 + r7) (by omega) (by omega)
      have HO : Hid (Kw B wb W wr ∧ numb U = (acc ++ [128 + r7]) ++ numb u2 ∧ u2 < u ∧ (u2 : Int) < 18446744073709551616) := (⟨hok, by rw [hvb, numb_ge (by omega), List.append_assoc, hu2, hr7]; congr 2; omega, by omega, by omega⟩ : _ ∧ _)
      clear hw hok hvb HX hU hc hu2 hr7
      go_wp2_with fail
      refine HC.mono ?_
      rintro e w2 ⟨rfl, y1, y2⟩
      obtain ⟨o1, o2, o3, o4⟩ := (show _ ∧ _ ∧ _ ∧ _ from HO)
      have HN : Hid (WS B wb (l ++ (acc ++ [128 + r7])) w2 ∧ Kw B wb W w2 ∧ numb U = (acc ++ [128 + r7]) ++ numb u2) := (⟨by rw [← List.append_assoc]; exact y1, o1.trans y2, o2⟩ : _ ∧ _)
      have HL : Hid (u2 < u ∧ (u2 : Int) < 18446744073709551616) := (⟨o3, o4⟩ : _ ∧ _)
      clear HC y1 y2 HO o1 o2 o3 o4
      go_wp2_with fail
      go_roundw
      case rel => exact ⟨u2, _, rfl, HL.2, HN⟩
      case measure => exact (show u2 < u ∧ _ from HL).1
def Rn (n : Int) : Prop := -9223372036854775808 ≤ n ∧ n ≤ 9223372036854775807
def nb (n : Int) : List Int := numb (sgn n)
/-- several numbers -/
def nbs : List Int → List Int
  | [] => []
  | n :: r => nb n ++ nbs r
theorem nbs_app (a b : List Int) : nbs (a ++ b) = nbs a ++ nbs b := by
  induction a with
  | nil => rfl
  | cons x a ih => show nb x ++ nbs (a ++ b) = (nb x ++ nbs a) ++ nbs b; rw [ih, List.append_assoc]
set_option maxHeartbeats 8000000 in
theorem im_numbers {B wb : Nat} {W : World} {l : List Int} {g : Nat} {cs : Array Value} (xs : List Int) (hr : ∀ x ∈ xs, Rn x) (hw : WS B wb l W) (hg : W.heap[g]? = some (.cells cs 3 (0, 0))) (hcs : cs.toList = xs.map fun x => Value.int .i64 x) (hgb : g ≠ wb) (hl : xs.length ≤ 100) :
    Calls Try.prog 171 #[.pointer (some ⟨wb, 0, none⟩), .slice (some ⟨g, 0, none⟩) xs.length xs.length] W (WP B wb W (l ++ nbs xs)) := by
  have HW : Hid (WS B wb l W ∧ (∀ x ∈ xs, Rn x)) := (⟨hw, hr⟩ : _ ∧ _)
  have HG : Hid (∀ W', Kw B wb W W' → ∀ (i : Nat) (x : Int), xs[i]? = some x → W'.cell? ⟨g, i, none⟩ = some (.int .i64 x)) := (fun W' k i x hx => by
    have := k.cells hg (by decide) hgb
    refine cell_of this ?_
    have e : cs[i]? = cs.toList[i]? := by simp
    rw [e, hcs, List.getElem?_map, hx]
    rfl : ∀ W', _)
  obtain ⟨n, hn⟩ : ∃ n, n = xs.length := ⟨_, rfl⟩
  rw [← hn]
  have HNN : Hid (n = xs.length) := hn
  have hnI : (n : Int) ≤ 100 := by omega
  clear hw hg hcs hgb hl hr hn
  go_enter Try.func171, Try.ntmps171
  go_wp2_with fail
  go_loopw [9] (fun s9 wr => ∃ (i : Nat), i ≤ n ∧ s9 = .int .i64 (i : Int) ∧ Hid (WS B wb (l ++ nbs (xs.take i)) wr ∧ Kw B wb W wr)) (fun s9 _ => n - (intOf s9).toNat)
  case atStart => exact ⟨0, by omega, rfl, (⟨by rw [List.take_zero, show nbs [] = [] from rfl, List.append_nil]; exact (show _ ∧ _ from HW).1, Kw.refl _ _ _⟩ : _ ∧ _)⟩
  case round =>
    obtain ⟨i, hi, rfl, HX⟩ := hrel
    obtain ⟨hw, hok⟩ := (show _ ∧ _ from HX)
    have hnn := (show n = xs.length from HNN)
    by_cases hin : i < n
    · have hI : (i : Int) < (n : Int) := by omega
      obtain ⟨x, hx⟩ : ∃ x, xs[i]? = some x := ⟨_, List.getElem?_eq_getElem (by omega)⟩
      have hc := (show ∀ W', Kw B wb W W' → _ from HG) wr hok i x hx
      have hrx := (show _ ∧ _ from HW).2 x (List.mem_of_getElem? hx)
      have htk : nbs (xs.take (i + 1)) = nbs (xs.take i) ++ nb x := by
        rw [List.take_add_one, hx, nbs_app]
        show _ ++ (nb x ++ []) = _
        rw [List.append_nil]
      have HC := im_groups (sgn x) (sgn_lt hrx.1 hrx.2) hw
      have HO : Hid (Kw B wb W wr ∧ nbs (xs.take (i + 1)) = nbs (xs.take i) ++ nb x) := (⟨hok, htk⟩ : _ ∧ _)
      by_cases hneg : x < 0
      · have e1 : IntKind.u64.wrap (2 * IntKind.u64.wrap x) = 18446744073709551616 + 2 * x := by rw [wrap_u64, wrap_u64]; have := hrx.1; omega
        have e2 : IntKind.u64.wrap (-(18446744073709551616 + 2 * x)) = (-2 * x) % 18446744073709551616 := by rw [wrap_u64]; have := hrx.1; omega
        have e3 : IntKind.u64.wrap ((-2 * x) % 18446744073709551616 - 1) = (sgn x : Int) := by
          rw [wrap_u64]
          unfold sgn
          rw [if_pos hneg]
          have := hrx.1
          omega
        obtain ⟨Z, hZ⟩ : ∃ Z, Z = (sgn x : Int) := ⟨_, rfl⟩
        rw [← hZ] at HC e3
        clear hw hok hrx htk HX hnn hx hZ
        obtain ⟨A1, hA1⟩ : ∃ A1 : Int, A1 = 18446744073709551616 + 2 * x := ⟨_, rfl⟩
        rw [← hA1] at e1 e2
        obtain ⟨A2, hA2⟩ : ∃ A2 : Int, A2 = (-2 * x) % 18446744073709551616 := ⟨_, rfl⟩
        rw [← hA2] at e2 e3
        clear hA1 hA2
        go_wp2_with fail
        refine HC.mono ?_
        rintro e w2 ⟨rfl, y1, y2⟩
        obtain ⟨o1, o2⟩ := (show _ ∧ _ from HO)
        have HN : Hid (WS B wb (l ++ nbs (xs.take (i + 1))) w2 ∧ Kw B wb W w2) := (⟨by rw [o2, ← List.append_assoc]; exact y1, o1.trans y2⟩ : _ ∧ _)
        clear HC y1 y2 HO o1 o2 e1 e2 e3
        go_wp2_with fail
        go_roundw
        case rel => exact ⟨i + 1, by omega, by go_num, HN⟩
        case measure => simp [intOf]; omega
      · have e4 : 2 * x = (sgn x : Int) := by unfold sgn; rw [if_neg (by omega)]; omega
        obtain ⟨Z, hZ⟩ : ∃ Z, Z = (sgn x : Int) := ⟨_, rfl⟩
        rw [← hZ] at HC e4
        obtain ⟨r1, r2⟩ := hrx
        clear hw hok htk HX hnn hx hZ
        go_wp2_with fail
        refine HC.mono ?_
        rintro e w2 ⟨rfl, y1, y2⟩
        obtain ⟨o1, o2⟩ := (show _ ∧ _ from HO)
        have HN : Hid (WS B wb (l ++ nbs (xs.take (i + 1))) w2 ∧ Kw B wb W w2) := (⟨by rw [o2, ← List.append_assoc]; exact y1, o1.trans y2⟩ : _ ∧ _)
        clear HC y1 y2 HO o1 o2 e4
        go_wp2_with fail
        go_roundw
        case rel => exact ⟨i + 1, by omega, by go_num, HN⟩
        case measure => simp [intOf]; omega
    · obtain rfl : i = n := by omega
      have hI : ¬ (i : Int) < (i : Int) := by omega
      have HN : Hid (WS B wb (l ++ nbs xs) wr ∧ Kw B wb W wr) := by
        rw [hnn, List.take_length] at hw
        exact (⟨hw, hok⟩ : _ ∧ _)
      clear hw hok HX hnn HW HG
      go_wp2_with fail
      exact ⟨rfl, .tuple #[], by simp [results, Try.results171], rfl, (show _ ∧ _ from HN).1, (show _ ∧ _ from HN).2⟩
end Go.Proofs.Ytbbjbojjglhgmaa.Fo
