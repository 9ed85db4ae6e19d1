import Derived.Test.YtndpgnmicikaaaaVaj
import Derived.Test.YtndpgnmicikaaaaVak
namespace Go.Proofs.Ytndpgnmicikaaaa
open Go.ChangeShapes Go.WideShapes Go.ChangeAt Go.RowKit
set_option linter.unusedVariables false
set_option maxHeartbeats 2000000 in
theorem law_valueok (v : Vv) (hb : Vb v) (w : World) : Calls Try.prog 3 #[vv v] w fun e w' => e = .returned (.bool true) ∧ Grown w w' := by
  have HS := fun w => sz_val v 1048576 (by omega) hb.x w
  by_cases hs : (v.x.size : Int) ≤ 1048576
  case neg =>
    rw [if_neg hs] at HS
    obtain ⟨k, m, g, x, r⟩ := v
    unfold vv at HS ⊢
    dsimp only at HS hs ⊢
    clear hb
    go_enter Try.func3, Try.ntmps3
    go_wp2_with fail
    refine (HS _).mono ?_
    rintro e w1 ⟨rfl, g1⟩
    have G1 : Hid (Grown w w1) := Grown.trans (by go_grown) g1
    clear g1 HS
    go_wp2_with fail
    go_ret
    exact ⟨rfl, G1⟩
  rw [if_pos hs] at HS
  have HO := fun w => sp_ok v hs w
  have HI := fun w => im_ok v hs w
  have HT := fun w => to_val v w
  generalize dc (vok v) = R at HO HI
  obtain ⟨k, m, g, x, r⟩ := v
  unfold vv at HS HO HI HT ⊢
  dsimp only at HS HO HI HT hs ⊢
  have hs2 : ¬ 1048576 - (x.size : Int) < 0 := by omega
  have hrr : (R != R) = false := by simp
  clear hb hs
  have HS' : Hid (∀ w, _) := HS
  have HO' : Hid (∀ w, _) := HO
  have HI' : Hid (∀ w, _) := HI
  have HT' : Hid (∀ w, _) := HT
  clear HS HO HI HT
  go_enter Try.func3, Try.ntmps3
  go_wp2_with fail
  refine (HS' _).mono ?_
  rintro e w1 ⟨rfl, g1⟩
  have G1 : Hid (Grown w w1) := Grown.trans (by go_grown) g1
  have V1 : Vc w1 w.heap.size ⟨k, m, g, x, r⟩ := (Vc.new w k m g x r 24).grown g1
  obtain ⟨c0, c1, c2, c3, c4⟩ := V1
  clear g1 HS'
  go_wp2_with fail
  refine (HT' _).mono ?_
  rintro e w2 ⟨rfl, g2⟩
  go_wp2_with fail
  refine (HO' _).mono ?_
  rintro e w3 ⟨rfl, g3⟩
  have G3 : Hid (Grown w w3) := Grown.trans G1 (Grown.trans g2 g3)
  obtain ⟨d0, d1, d2, d3, d4⟩ := (show Vc w1 w.heap.size ⟨k, m, g, x, r⟩ from ⟨c0, c1, c2, c3, c4⟩).grown (Grown.trans g2 g3)
  clear G1 g2 g3 c0 c1 c2 c3 c4 HO'
  go_wp2_with fail
  refine (HT' _).mono ?_
  rintro e w4 ⟨rfl, g4⟩
  go_wp2_with fail
  refine (HI' _).mono ?_
  rintro e w5 ⟨rfl, g5⟩
  have G5 : Hid (Grown w w5) := Grown.trans G3 (Grown.trans g4 g5)
  clear G3 g4 g5 d0 d1 d2 d3 d4 HI' HT'
  go_wp2_with fail
  go_ret
  exact ⟨rfl, G5⟩
end Go.Proofs.Ytndpgnmicikaaaa
