import Derived.Test.YtgocahalfanpjaaDoorWtd
namespace Go.Proofs.YtgocahalfanpjaaDoor.Fo
open Go.ChangeShapes Go.WideShapes Go.ChangeAt Go.RowKit Go.Shelf
set_option linter.unusedVariables false
set_option maxRecDepth 100000
set_option maxHeartbeats 16000000 in
theorem law_within (f s : ByteArray) (w : World) : Calls Tryd.prog 3 #[.string f, .string s] w fun e w' => e = .returned (.bool true) ∧ Kb 0 w w' := by
  obtain ⟨p, rfl⟩ : ∃ l, f = bt l := ⟨_, (bt_eq f).symm⟩
  obtain ⟨l, rfl⟩ : ∃ l, s = bt l := ⟨_, (bt_eq s).symm⟩
  have HS : Hid (∀ W, Calls Tryd.prog 5 #[.string (bt p), .string (bt l)] W fun e w' => e = .returned (clV (wth p l)) ∧ Kb 0 W w') := (fun W => sp_within p l W : ∀ W, _)
  have HI : Hid (∀ W, Calls Tryd.prog 6 #[.string (bt p), .string (bt l)] W fun e w' => e = .returned (clV (wth p l)) ∧ Kb 0 W w') := (fun W => im_within p l W : ∀ W, _)
  have hsp : (bt p).size = p.length := bt_size p
  have hsz : (bt l).size = l.length := bt_size l
  obtain ⟨V, hV⟩ : ∃ V, V = wth p l := ⟨_, rfl⟩
  rw [← hV] at HS HI
  clear hV
  go_enter Tryd.func3, Tryd.ntmps3
  by_cases ha : (p.length : Int) > 1048576
  · go_wp2_with fail
    go_ret
    exact ⟨rfl, Kb.refl _ _⟩
  by_cases hb : (l.length : Int) > 1048576
  · go_wp2_with fail
    go_ret
    exact ⟨rfl, Kb.refl _ _⟩
  go_wp2_with fail
  refine ((show ∀ W, _ from HS) w).mono ?_
  rintro e x ⟨rfl, kx⟩
  rw [clV] at *
  obtain ⟨x1, hx1⟩ : ∃ x1, x1 = x.alloc (.cells #[.int .i64 V.1, .string (bt V.2)] 23) := ⟨_, rfl⟩
  obtain ⟨b1, z1, k1⟩ := one_box x _ _ x1 hx1
  go_wp2_with fail
  rw [← hx1]
  refine ((show ∀ W, _ from HI) x1).mono ?_
  rintro e y ⟨rfl, ky⟩
  have b1y : y.heap[x.heap.size]? = some (.cells #[.int .i64 V.1, .string (bt V.2)] 23 (0, 0)) := (ky.block _ (Nat.zero_le _) (by omega)).trans b1
  have a0 : y.cell? ⟨x.heap.size, 0, none⟩ = some (.int .i64 V.1) := cell_of b1y rfl
  have a1 : y.cell? ⟨x.heap.size, 1, none⟩ = some (.string (bt V.2)) := cell_of b1y rfl
  have zy : x.heap.size < y.heap.size := by have := ky.size; omega
  have HK : Hid (Kb 0 w y) := (kx.trans k1).trans ky
  have HE := fun W => eq_cleaned V.1 (bt V.2) W
  clear HS HI kx ky k1 z1 b1 hx1 b1y x1
  go_wp2_with fail
  refine (HE _).mono ?_
  rintro e z ⟨rfl, kz⟩
  have HZ : Hid (Kb 0 w z) := (show Kb 0 w y from HK).trans ((kb_alloc _ _ _).trans kz)
  clear HK kz HE
  go_wp2_with fail
  go_ret
  exact ⟨rfl, HZ⟩
end Go.Proofs.YtgocahalfanpjaaDoor.Fo
