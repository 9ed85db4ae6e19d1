import Derived.Test.YtndpgnmicikaaaaVav
import Derived.Test.YtndpgnmicikaaaaVavb
import Derived.Test.YtndpgnmicikaaaaVaw
namespace Go.Proofs.Ytndpgnmicikaaaa
open Go.ChangeShapes Go.WideShapes Go.ChangeAt Go.RowKit
set_option linter.unusedVariables false
attribute [local go_sem] run_equalIn_flt
theorem fl_some (x y : Nat) (hx : FloatKind.f64.format.order x x = some .eq) (hy : FloatKind.f64.format.order y y = some .eq) : ∃ o, FloatKind.f64.format.order x y = some o := by
  unfold Ieee.Format.order at *
  refine Flt.d_some _ _ ?_ ?_
  · rcases Flt.d_self (FloatKind.f64.format.read x) with g | g
    · rw [(g.2 _).1] at hx; cases hx
    · exact g.1
  · rcases Flt.d_self (FloatKind.f64.format.read y) with g | g
    · rw [(g.2 _).1] at hy; cases hy
    · exact g.1
theorem fz_eq {x y : Nat} (hx : x < 18446744073709551616) (hy : y < 18446744073709551616) (h1 : fz x) (h2 : fz y) : FloatKind.f64.format.order x y = some .eq := by
  have key : ∀ z, z < 18446744073709551616 → fz z → z = 0 ∨ z = 9223372036854775808 := fun z hz h => by
    unfold fz at h
    rcases Flt.zero_cases z hz with g | ⟨_, _, g⟩ | ⟨_, g⟩
    · rw [fl_nan z 0 (.inl g)] at h; cases h
    · exact g
    · rcases g with g | g <;> (rw [g] at h; cases h)
  rcases key x hx h1 with rfl | rfl <;> rcases key y hy h2 with rfl | rfl <;> decide
/-- values that are no floats have a zero there -/
theorem vok_fz {v : Vv} (h : vok v) (hk : ¬ v.k = 3) : fz v.g := by
  unfold vok zr at h
  rcases h with h | h | h | h | h | h | h | h | h
  · simpa using h.2.1.2.1
  · simpa using h.2.1.2.1
  · simpa using h.2.1.2.1
  · exact absurd h.1 hk
  · simpa using h.2.1.2.1
  · simpa using h.2.1.2.1
  · simpa using h.2.1.2.1
  · simpa using h.2.1.2.1
  · simpa using h.2.1.2.1
theorem num_both (a b : Vv) (ha : vok a) (hb : vok b) (hxa : (a.x.size : Int) ≤ 1048576) (hxb : (b.x.size : Int) ≤ 1048576) (ba : Vb a) (bb : Vb b) (na : nmb a) (nb : nmb b) : ∃ z : Int, (∀ w, Calls Try.prog 16 #[vv a, vv b] w fun e w' => e = .returned (.int .i64 z) ∧ Grown w w') ∧ (∀ w, Calls Try.prog 24 #[vv a, vv b] w fun e w' => e = .returned (.int .i64 z) ∧ Grown w w') := by
  rcases na with ka | ka <;> rcases nb with kb | kb
  · rcases Int.lt_trichotomy a.m b.m with q | q | q
    · exact ⟨_, fun w => sp_ii_lt a b ha hb hxa hxb ka kb q w, fun w => by rw [← cmpi_lt q]; exact im_ii a b ka kb w⟩
    · exact ⟨_, fun w => sp_ii_eq a b ha hb hxa hxb ka kb q w, fun w => by rw [← cmpi_eq q]; exact im_ii a b ka kb w⟩
    · exact ⟨_, fun w => sp_ii_gt a b ha hb hxa hxb ka kb q w, fun w => by rw [← cmpi_gt q]; exact im_ii a b ka kb w⟩
  · rcases fl_self b.g with hn | hn
    · exact ⟨_, fun w => sp_if_nan a b ha hb hxa hxb ka kb hn w, fun w => im_if a b ka kb 2 (fun w => im_oi_nan a.m b.g hn w) w⟩
    · obtain ⟨z, _, h1, h2⟩ := oi_both a.m b.g bb.g hn
      exact ⟨z, fun w => sp_if a b ha hb hxa hxb ka kb hn z h1 w, fun w => im_if a b ka kb z h2 w⟩
  · rcases fl_self a.g with hn | hn
    · exact ⟨_, fun w => sp_fi_nan a b ha hb hxa hxb ka kb hn w, fun w => im_fi a b ka kb 2 (fun w => im_oi_nan b.m a.g hn w) 2 im_turn2 w⟩
    · obtain ⟨z, hz, h1, h2⟩ := oi_both b.m a.g ba.g hn
      rcases hz with rfl | rfl | rfl
      · exact ⟨1, fun w => sp_fi_m a b ha hb hxa hxb ka kb hn h1 w, fun w => im_fi a b ka kb _ h2 1 (fun w => im_turn _ (by omega) w) w⟩
      · exact ⟨0, fun w => sp_fi_z a b ha hb hxa hxb ka kb hn h1 w, fun w => im_fi a b ka kb _ h2 0 (fun w => im_turn _ (by omega) w) w⟩
      · exact ⟨-1, fun w => sp_fi_p a b ha hb hxa hxb ka kb hn h1 w, fun w => im_fi a b ka kb _ h2 (-1) (fun w => im_turn _ (by omega) w) w⟩
  · have e : ∀ o z, FloatKind.f64.format.order a.g b.g = o → (match o with | some .lt => (-1 : Int) | some .gt => 1 | some .eq => 0 | none => 2) = z → odf a.g b.g = z := fun o z h1 h2 => by unfold odf; rw [h1]; exact h2
    rcases fl_self a.g with hm | hm
    · exact ⟨2, fun w => sp_ff_nana a b ha hb hxa hxb ka kb hm w, fun w => by rw [← e none 2 (fl_nan _ _ (.inl hm)) rfl]; exact im_ff a b ka kb w⟩
    rcases fl_self b.g with hn | hn
    · exact ⟨2, fun w => sp_ff_nanb a b ha hb hxa hxb ka kb hm hn w, fun w => by rw [← e none 2 (fl_nan _ _ (.inr hn)) rfl]; exact im_ff a b ka kb w⟩
    cases ho : FloatKind.f64.format.order a.g b.g with
    | none =>
      exfalso
      obtain ⟨o, h⟩ := fl_some a.g b.g hm hn
      rw [h] at ho; cases ho
    | some c =>
      cases c
      · exact ⟨-1, fun w => sp_ff_lt a b ha hb hxa hxb ka kb hm hn ho w, fun w => by rw [← e (some .lt) (-1) ho rfl]; exact im_ff a b ka kb w⟩
      · exact ⟨0, fun w => sp_ff_eq a b ha hb hxa hxb ka kb hm hn ho w, fun w => by rw [← e (some .eq) 0 ho rfl]; exact im_ff a b ka kb w⟩
      · exact ⟨1, fun w => sp_ff_gt a b ha hb hxa hxb ka kb hm hn ho w, fun w => by rw [← e (some .gt) 1 ho rfl]; exact im_ff a b ka kb w⟩
end Go.Proofs.Ytndpgnmicikaaaa
