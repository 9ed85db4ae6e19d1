import Derived.Test.YtladepgpandklaaGreatDoorMVdk
import Derived.Test.YtladepgpandklaaGreatDoorMVdd
import Derived.Test.YtladepgpandklaaGreatDoorMVde
import Derived.Test.YtladepgpandklaaGreatDoorMVdg
import Derived.Test.YtladepgpandklaaGreatDoorMVdh
import Derived.Test.YtladepgpandklaaGreatDoorMVdj
namespace Go.Proofs.YtladepgpandklaaGreatDoor
open Go.ChangeShapes Go.WideShapes Go.ChangeAt Go.RowKit
set_option linter.unusedVariables false
set_option maxRecDepth 100000
set_option maxHeartbeats 2000000 in
theorem sp_io_4 (a b : Int) (x y : Nat) (hxx : floatOfInt .f64 a = x) (hyy : floatOfInt .f64 b = y) (w : World) : Calls Tryz.prog 18 #[.int .i64 4, .int .i64 a, .int .i64 b] w fun e w' => ∃ g, e = .returned (va 0 ⟨3, 0, g, ⟨#[]⟩, 0⟩) ∧ OR (fo 4 x y) g ∧ Grown w w' := by
  have hA := fun x y w => arith_run (op := .quo) (.inr (.inr (.inr rfl))) x y w
  have HF := fun g w => sp_flt g w
  have HG := fun g w => sp_got ⟨3, 0, g, ⟨#[]⟩, 0⟩ w
  unfold vv at HF HG
  unfold va at HG
  dsimp only at HF HG
  unfold va
  dsimp only
  have hst : ∀ (a : Addr) (n : Nat) (m : Mode) (w : World), (store a (.float .f64 n) m).run Tryz.prog w = stored Tryz.prog w a (.float .f64 n) m := fun a n m w => run_store _ _ _ _ _ rfl
  go_enter Tryz.func18, Tryz.ntmps18
  go_wp2_with fail
  have hor := or_afr .quo x y (w.alloc (.cells #[.int .i64 0, .int .i64 0, .int .i64 0, .float .f64 0, .string ⟨#[]⟩, .int .i64 0] 28))
  have gr : Grown w (afw .quo x y (w.alloc (.cells #[.int .i64 0, .int .i64 0, .int .i64 0, .float .f64 0, .string ⟨#[]⟩, .int .i64 0] 28))) := Grown.trans (Grown.alloc (Grown.refl _) _ _) (afw_grown _ _ _ _)
  have rv : Rv (afw .quo x y (w.alloc (.cells #[.int .i64 0, .int .i64 0, .int .i64 0, .float .f64 0, .string ⟨#[]⟩, .int .i64 0] 28))) w.heap.size := Rv.grown (Rv.new w 28) (afw_grown _ _ _ _)
  generalize afr .quo x y (w.alloc (.cells #[.int .i64 0, .int .i64 0, .int .i64 0, .float .f64 0, .string ⟨#[]⟩, .int .i64 0] 28)) = g0 at *
  generalize afw .quo x y (w.alloc (.cells #[.int .i64 0, .int .i64 0, .int .i64 0, .float .f64 0, .string ⟨#[]⟩, .int .i64 0] 28)) = W0 at *
  have HOR : Hid (OR (floatBits .quo .f64 x y) g0) := hor
  have G0 : Hid (Grown w W0) := gr
  have R0 : Hid (Rv W0 w.heap.size) := rv
  clear hor gr rv hA
  refine (HF _ _).mono ?_
  rintro e w1 ⟨rfl, g1⟩
  have G1 : Hid (Grown w w1) := Grown.trans G0 g1
  have R1 : Hid (Rv w1 w.heap.size) := Rv.grown R0 g1
  clear g1 G0 R0
  go_wp2_with fail
  refine (HG _ _).mono ?_
  rintro e w2 ⟨rfl, g2⟩
  have G2 : Hid (Grown w w2) := Grown.trans G1 g2
  have R2 : Hid (Rv w2 w.heap.size) := Rv.grown R1 g2
  clear g2 G1 R1
  have Z2 : w.heap.size < w2.heap.size := by
    have := (show Rv w2 w.heap.size from R2).c0
    unfold World.cell? at this
    cases hh : w2.heap[w.heap.size]? with
    | none => simp [hh] at this
    | some o => exact (Array.getElem?_eq_some_iff.1 hh).1
  obtain ⟨r0, r1, r2, r3, r4, r5, rz⟩ := (show Rv w2 w.heap.size from R2)
  go_wp2_with fail
  obtain ⟨e0, e1, e2, e3, e4, e5⟩ := rv_set' (show Rv w2 w.heap.size from R2) 0 3 0 g0 ⟨#[]⟩ 0
  have GG : Hid (Grown w (s6 w2 w.heap.size 0 3 0 g0 ⟨#[]⟩ 0)) := s6_grown G2 (Nat.le_refl _) 0 3 0 g0 ⟨#[]⟩ 0
  obtain ⟨WF, hWF⟩ : ∃ WF, WF = s6 w2 w.heap.size 0 3 0 g0 ⟨#[]⟩ 0 := ⟨_, rfl⟩
  rw [← hWF] at e0 e1 e2 e3 e4 e5 GG
  have hWF' := hWF
  unfold s6 at hWF'
  rw [← hWF']
  clear hWF hWF'
  refine bodyPost_ret (by simp [results, Tryz.results18, go_sem, e0, e1, e2, e3, e4, e5]; rfl) rfl ?_
  exact ⟨g0, rfl, HOR, GG⟩
theorem ints_both (op a b : Int) (ho : 1 ≤ op ∧ op ≤ 11) (n4 : ¬ op = 4) (ba : -9223372036854775808 ≤ a ∧ a ≤ 9223372036854775807) (bb : -9223372036854775808 ≤ b ∧ b ≤ 9223372036854775807) : ∃ (c : Int) (u : Vv), u.g < 18446744073709551616 ∧ (∀ w, Calls Tryz.prog 18 #[.int .i64 op, .int .i64 a, .int .i64 b] w fun e w' => e = .returned (va c u) ∧ Grown w w') ∧ (∀ w, Calls Tryz.prog 30 #[.int .i64 op, .int .i64 a, .int .i64 b] w fun e w' => e = .returned (va c u) ∧ Grown w w') := by
  have z : (0 : Nat) < 18446744073709551616 := by omega
  have h : op = 1 ∨ op = 2 ∨ op = 3 ∨ op = 7 ∨ op = 8 ∨ op = 9 ∨ op = 5 ∨ op = 6 ∨ op = 10 ∨ op = 11 := by omega
  clear ho n4
  rcases h with rfl | rfl | rfl | rfl | rfl | rfl | rfl | rfl | rfl | rfl
  · exact ⟨_, _, z, fun w => sp_io_1 a b w, fun w => im_io_1 a b w⟩
  · exact ⟨_, _, z, fun w => sp_io_2 a b w, fun w => im_io_2 a b w⟩
  · exact ⟨_, _, z, fun w => sp_io_3 a b w, fun w => im_io_3 a b w⟩
  · exact ⟨_, _, z, fun w => sp_io_7 a b w, fun w => im_io_7 a b w⟩
  · exact ⟨_, _, z, fun w => sp_io_8 a b w, fun w => im_io_8 a b w⟩
  · exact ⟨_, _, z, fun w => sp_io_9 a b w, fun w => im_io_9 a b w⟩
  · by_cases h0 : b = 0
    · subst h0
      exact ⟨_, _, z, fun w => sp_io_5z a w, fun w => im_io_5z a w⟩
    · obtain ⟨q, m, hm, h1, h2⟩ := div_both a b ba bb h0
      exact ⟨_, _, z, fun w => sp_io_5 a b h0 q m hm h1 w, fun w => im_io_5 a b q m h2 w⟩
  · by_cases h0 : b = 0
    · subst h0
      exact ⟨_, _, z, fun w => sp_io_6z a w, fun w => im_io_6z a w⟩
    · obtain ⟨q, m, hm, h1, h2⟩ := div_both a b ba bb h0
      exact ⟨_, _, z, fun w => sp_io_6 a b h0 q m hm h1 w, fun w => im_io_6 a b q m h2 w⟩
  · by_cases h0 : b < 0
    · exact ⟨_, _, z, fun w => sp_io_10n a b h0 w, fun w => im_io_10n a b h0 w⟩
    · exact ⟨_, _, z, fun w => sp_io_10 a b h0 w, fun w => im_io_10 a b bb h0 w⟩
  · by_cases h0 : b < 0
    · exact ⟨_, _, z, fun w => sp_io_11n a b h0 w, fun w => im_io_11n a b h0 w⟩
    · exact ⟨_, _, z, fun w => sp_io_11 a b h0 w, fun w => im_io_11 a b bb h0 w⟩
theorem floats_both (op : Int) (x y : Nat) : ∃ A : An, (op = 4 → A = .fl (fo 4 x y)) ∧ (∀ w, Calls Tryz.prog 20 #[.int .i64 op, .float .f64 x, .float .f64 y] w fun e w' => (∃ c u, e = .returned (va c u) ∧ A.is c u) ∧ Grown w w') ∧ (∀ w, Calls Tryz.prog 32 #[.int .i64 op, .float .f64 x, .float .f64 y] w fun e w' => (∃ c u, e = .returned (va c u) ∧ A.is c u) ∧ Grown w w') := by
  by_cases h : op = 1 ∨ op = 2 ∨ op = 3 ∨ op = 4 ∨ op = 5 ∨ op = 6
  · rcases h with rfl | rfl | rfl | rfl | rfl | rfl
    · refine ⟨.fl (fo 1 x y), by intro h; omega, fun w => (sp_fl_1 x y w).mono ?_, fun w => (im_fl_1 x y w).mono ?_⟩
      all_goals
        rintro e w' ⟨g, rfl, hg, gr⟩
        exact ⟨⟨0, _, rfl, rfl, g, rfl, hg⟩, gr⟩
    · refine ⟨.fl (fo 2 x y), by intro h; omega, fun w => (sp_fl_2 x y w).mono ?_, fun w => (im_fl_2 x y w).mono ?_⟩
      all_goals
        rintro e w' ⟨g, rfl, hg, gr⟩
        exact ⟨⟨0, _, rfl, rfl, g, rfl, hg⟩, gr⟩
    · refine ⟨.fl (fo 3 x y), by intro h; omega, fun w => (sp_fl_3 x y w).mono ?_, fun w => (im_fl_3 x y w).mono ?_⟩
      all_goals
        rintro e w' ⟨g, rfl, hg, gr⟩
        exact ⟨⟨0, _, rfl, rfl, g, rfl, hg⟩, gr⟩
    · refine ⟨.fl (fo 4 x y), by intro _; rfl, fun w => (sp_fl_4 x y w).mono ?_, fun w => (im_fl_4 x y w).mono ?_⟩
      all_goals
        rintro e w' ⟨g, rfl, hg, gr⟩
        exact ⟨⟨0, _, rfl, rfl, g, rfl, hg⟩, gr⟩
    · refine ⟨.fl (fo 5 x y), by intro h; omega, fun w => (sp_fl_5 x y w).mono ?_, fun w => (im_fl_5 x y w).mono ?_⟩
      all_goals
        rintro e w' ⟨g, rfl, hg, gr⟩
        exact ⟨⟨0, _, rfl, rfl, g, rfl, hg⟩, gr⟩
    · refine ⟨.fl (fo 6 x y), by intro h; omega, fun w => (sp_fl_6 x y w).mono ?_, fun w => (im_fl_6 x y w).mono ?_⟩
      all_goals
        rintro e w' ⟨g, rfl, hg, gr⟩
        exact ⟨⟨0, _, rfl, rfl, g, rfl, hg⟩, gr⟩
  · have n1 : ¬ op = 1 := by omega
    have n2 : ¬ op = 2 := by omega
    have n3 : ¬ op = 3 := by omega
    have n4 : ¬ op = 4 := by omega
    have n5 : ¬ op = 5 := by omega
    have n6 : ¬ op = 6 := by omega
    refine ⟨.ex 1 ⟨0, 0, 0, ⟨#[]⟩, 0⟩ (by show (0 : Nat) < _; omega), fun h => absurd h n4, fun w => (sp_fl_x op n1 n2 n3 n4 n5 n6 x y w).mono ?_, fun w => (im_fl_x op n1 n2 n3 n4 n5 n6 x y w).mono ?_⟩
    all_goals
      rintro e w' ⟨rfl, gr⟩
      exact ⟨⟨1, _, rfl, rfl, rfl⟩, gr⟩
end Go.Proofs.YtladepgpandklaaGreatDoor
