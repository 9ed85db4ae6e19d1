import Derived.Test.YtbbjbojjglhgmaaPab
namespace Go.Proofs.Ytbbjbojjglhgmaa.Fo
open Go.ChangeShapes Go.WideShapes Go.ChangeAt Go.RowKit
set_option linter.unusedVariables false
set_option maxRecDepth 100000
theorem im_num1 {B wb : Nat} {W : World} {l : List Int} (hw : WS B wb l W) (x : Int) (hr : Rn x) :
    Calls Try.prog 171 #[.pointer (some ⟨wb, 0, none⟩), .slice (some ⟨W.heap.size, 0, none⟩) 1 1] (W.alloc (.cells #[.int .i64 x] 3)) (WP B wb W (l ++ numb (sgn x))) := by
  have hlt : wb < W.heap.size := Nat.lt_of_lt_of_le hw.1 hw.2.1
  refine (im_numbers [x] (fun y hy => by rw [List.mem_singleton] at hy; subst hy; exact hr) (hw.call (kb_alloc 0 W (.cells #[.int .i64 x] 3))) (alloc_new _ _ _) rfl (by omega) (by simp)).mono ?_
  rintro e w' ⟨h1, h2, h3⟩
  have e1 : l ++ nbs [x] = l ++ numb (sgn x) := by
    show l ++ (nb x ++ []) = _
    rw [List.append_nil]
    rfl
  rw [e1] at h2
  exact ⟨h1, h2, (Kw.of_kb (kb_alloc 0 W _)).trans h3⟩
theorem eig_bok (n : Nat) : ∀ k, Bok (eig n k)
  | 0 => fun x hx => by cases hx
  | k + 1 => (eig_bok n k).app (fun x hx => by rw [List.mem_singleton] at hx; subst hx; omega)
theorem numb_bok : ∀ (n : Nat), Bok (numb n) := by
  intro n
  induction n using Nat.strongRecOn with
  | ind n ih =>
    by_cases h : n ≤ 127
    · rw [numb_lt h]; intro x hx; rw [List.mem_singleton] at hx; subst hx; omega
    · rw [numb_ge h]
      intro x hx
      rcases List.mem_cons.1 hx with rfl | q
      · omega
      · exact ih (n / 128) (by omega) x q
/-- a word with a sign, shifted -/
theorem shr_step (n : Int) (k : Nat) : (n / 256 ^ k) / 256 = n / 256 ^ (k + 1) := by
  rw [Int.pow_succ, Int.ediv_ediv_of_nonneg (by have : (0:Int) < 256 ^ k := Int.pow_pos (by decide); omega)]
theorem eig_byte (n : Int) (k : Nat) (hk : k < 8) : (n / 256 ^ k) % 256 = (((n % 18446744073709551616).toNat / 256 ^ k % 256 : Nat) : Int) := by
  have e0 : (0 : Int) ≤ n % 18446744073709551616 := by omega
  rw [Int.natCast_emod, Int.natCast_ediv, Int.toNat_of_nonneg e0]
  have hd : n = 18446744073709551616 * (n / 18446744073709551616) + n % 18446744073709551616 := (Int.mul_ediv_add_emod _ _).symm
  generalize n / 18446744073709551616 = q at hd
  generalize n % 18446744073709551616 = r at hd
  subst hd
  rcases (by omega : k = 0 ∨ k = 1 ∨ k = 2 ∨ k = 3 ∨ k = 4 ∨ k = 5 ∨ k = 6 ∨ k = 7) with rfl | rfl | rfl | rfl | rfl | rfl | rfl | rfl <;> simp <;> omega
set_option maxHeartbeats 8000000 in
theorem im_eight {B wb : Nat} {W : World} {l : List Int} (n : Int) (h0 : -9223372036854775808 ≤ n) (h1 : n ≤ 9223372036854775807) (hw : WS B wb l W) :
    Calls Try.prog 105 #[.pointer (some ⟨wb, 0, none⟩), .int .i64 n] W (WP B wb W (l ++ eig (n % 18446744073709551616).toNat 8)) := by
  obtain ⟨N, hN⟩ : ∃ N, N = (n % 18446744073709551616).toNat := ⟨_, rfl⟩
  have HB : Hid (∀ k, k < 8 → (n / 256 ^ k) % 256 = ((N / 256 ^ k % 256 : Nat) : Int)) := (by rw [hN]; exact fun k hk => eig_byte n k hk : ∀ k, _)
  rw [← hN]
  have HW : Hid (WS B wb l W) := hw
  clear hw hN h0 h1
  go_enter Try.func105, Try.ntmps105
  go_wp2_with fail
  go_loopw [1, 4] (fun s1 s4 wr => ∃ k : Nat, s4 = .int .i64 (k : Int) ∧ k ≤ 8 ∧ s1 = .int .i64 (n / 256 ^ k) ∧ Hid (WS B wb (l ++ eig N k) wr ∧ Kw B wb W wr)) (fun _ s4 _ => 8 - (intOf s4).toNat)
  case atStart => exact ⟨0, rfl, by omega, by simp, (⟨by rw [show eig N 0 = [] from rfl, List.append_nil]; exact HW, Kw.refl _ _ _⟩ : _ ∧ _)⟩
  case round =>
    clear HW
    obtain ⟨k, rfl, hk, rfl, HX⟩ := hrel
    obtain ⟨hw, hok⟩ := (show WS B wb (l ++ eig N k) wr ∧ Kw B wb W wr from HX)
    rcases Nat.lt_or_ge k 8 with hk8 | hk8
    case inr =>
      obtain rfl : k = 8 := by omega
      clear hw hok HB
      go_wp2_with fail
      exact ⟨rfl, .tuple #[], by simp [results, Try.results105], rfl, (show _ ∧ _ from HX).1, (show _ ∧ _ from HX).2⟩
    have hkI : (k : Int) < 8 := by omega
    obtain ⟨X, hX⟩ : ∃ X, X = n / 256 ^ k := ⟨_, rfl⟩
    have hbt := (show ∀ k, k < 8 → _ from HB) k hk8
    rw [← hX] at hbt
    rw [← hX]
    obtain ⟨b, hb⟩ : ∃ b : Int, b = ((N / 256 ^ k % 256 : Nat) : Int) := ⟨_, rfl⟩
    have hcv : IntKind.u8.wrap X = b := by rw [wrap_u8, hbt, hb]
    have HC := im_put1 hw b (by omega) (by omega)
    have HO : Hid (Kw B wb W wr ∧ l ++ eig N (k + 1) = (l ++ eig N k) ++ [b] ∧ X / 256 = n / 256 ^ (k + 1)) := (⟨hok, by rw [hb]; show l ++ (eig N k ++ [_]) = _; rw [List.append_assoc], by rw [hX]; exact shr_step n k⟩ : _ ∧ _)
    have hsh : X >>> (8 : Nat) = X / 256 := by rw [Int.shiftRight_eq_div_pow]; rfl
    clear hw hok HX hbt hb HB hX
    go_wp2_with fail
    refine HC.mono ?_
    rintro e w2 ⟨rfl, y1, y2⟩
    obtain ⟨o1, o2, o3⟩ := (show _ ∧ _ ∧ _ from HO)
    have HN : Hid (WS B wb (l ++ eig N (k + 1)) w2 ∧ Kw B wb W w2) := (⟨by rw [o2]; exact y1, o1.trans y2⟩ : _ ∧ _)
    have HN3 : Hid (X / 256 = n / 256 ^ (k + 1)) := o3
    clear HC y1 y2 o1 o2 o3 HO
    go_wp2_with fail
    go_roundw
    case rel => exact ⟨k + 1, by go_num, by omega, by rw [show X / 256 = _ from HN3], HN⟩
    case measure => simp [intOf]; omega
end Go.Proofs.Ytbbjbojjglhgmaa.Fo
