import Derived.Test.YtladepgpandklaaGreatDoorMVdq
import Derived.Test.YtladepgpandklaaGreatDoorMVdr
import Derived.Test.YtladepgpandklaaGreatDoorMVds
import Derived.Test.YtladepgpandklaaGreatDoorMVdt
import Derived.Test.YtladepgpandklaaGreatDoorMVdu
namespace Go.Proofs.YtladepgpandklaaGreatDoor
open Go.ChangeShapes Go.WideShapes Go.ChangeAt Go.RowKit
set_option linter.unusedVariables false
set_option maxRecDepth 100000
theorem toA {f : FuncId} {args : Array Value} {w : World} {K : World → World → Prop} {c : Int} {u : Vv} (hu : u.g < 18446744073709551616) (H : Calls Tryz.prog f args w fun e w' => e = .returned (va c u) ∧ K w w') : Calls Tryz.prog f args w fun e w' => (∃ c' u', e = .returned (va c' u') ∧ (An.ex c u hu).is c' u') ∧ K w w' :=
  H.mono fun e w' ⟨he, k⟩ => ⟨⟨c, u, he, rfl, rfl⟩, k⟩
theorem toF {f : FuncId} {args : Array Value} {w : World} {K : World → World → Prop} {o : Option Nat} (H : Calls Tryz.prog f args w fun e w' => ∃ g, e = .returned (va 0 ⟨3, 0, g, ⟨#[]⟩, 0⟩) ∧ OR o g ∧ K w w') : Calls Tryz.prog f args w fun e w' => (∃ c' u', e = .returned (va c' u') ∧ (An.fl o).is c' u') ∧ K w w' :=
  H.mono fun e w' ⟨g, he, hg, k⟩ => ⟨⟨0, _, he, rfl, g, rfl, hg⟩, k⟩
theorem sp_b_o (op z : Int) (ho : 15 ≤ op ∧ op ≤ 18) (hz : -1 ≤ z ∧ z ≤ 3) (h3 : ¬ z = 3) (a b : Vv) (ha : vok a) (hb : vok b) (hxa : (a.x.size : Int) ≤ 1048576) (hxb : (b.x.size : Int) ≤ 1048576) (HZ : (∀ w, Calls Tryz.prog 17 #[vv a, vv b] w fun e w' => e = .returned (.int .i64 z) ∧ Grown w w')) (w : World) : Calls Tryz.prog 5 #[.int .i64 op, vv a, vv b] w fun e w' => e = .returned (va 0 ⟨1, (ordb op z).toInt, 0, ⟨#[]⟩, 0⟩) ∧ Kq w w' := by
  have h : z = -1 ∨ z = 0 ∨ z = 1 ∨ z = 2 := by omega
  have o : op = 15 ∨ op = 16 ∨ op = 17 ∨ op = 18 := by omega
  rcases o with rfl | rfl | rfl | rfl <;> rcases h with rfl | rfl | rfl | rfl
  · exact sp_b_o_15_0 a b ha hb hxa hxb HZ w
  · exact sp_b_o_15_1 a b ha hb hxa hxb HZ w
  · exact sp_b_o_15_2 a b ha hb hxa hxb HZ w
  · exact sp_b_o_15_3 a b ha hb hxa hxb HZ w
  · exact sp_b_o_16_0 a b ha hb hxa hxb HZ w
  · exact sp_b_o_16_1 a b ha hb hxa hxb HZ w
  · exact sp_b_o_16_2 a b ha hb hxa hxb HZ w
  · exact sp_b_o_16_3 a b ha hb hxa hxb HZ w
  · exact sp_b_o_17_0 a b ha hb hxa hxb HZ w
  · exact sp_b_o_17_1 a b ha hb hxa hxb HZ w
  · exact sp_b_o_17_2 a b ha hb hxa hxb HZ w
  · exact sp_b_o_17_3 a b ha hb hxa hxb HZ w
  · exact sp_b_o_18_0 a b ha hb hxa hxb HZ w
  · exact sp_b_o_18_1 a b ha hb hxa hxb HZ w
  · exact sp_b_o_18_2 a b ha hb hxa hxb HZ w
  · exact sp_b_o_18_3 a b ha hb hxa hxb HZ w
theorem im_none (op : Int) (h : op < 1) (a b : Vv) (ha : vok a) (hb : vok b) (hxa : (a.x.size : Int) ≤ 1048576) (hxb : (b.x.size : Int) ≤ 1048576) (w : World) : Calls Tryz.prog 7 #[.int .i64 op, vv a, vv b] w fun e w' => (∃ c u, e = .returned (va c u) ∧ (An.ex 1 ⟨0, 0, 0, ⟨#[]⟩, 0⟩ (by show (0 : Nat) < _; omega)).is c u) ∧ Kq w w' := by
  by_cases na : nmb a
  case neg => exact toA _ (im_b_na op a b ha hb hxa hxb (by omega) na w)
  by_cases nb : nmb b
  case neg =>
    by_cases ka : a.k = 2
    · exact toA _ (im_b_nb2 op a b ha hb hxa hxb (by omega) na nb ka w)
    · exact toA _ (im_b_nb3 op a b ha hb hxa hxb (by omega) na nb ka w)
  by_cases ka : a.k = 2
  · by_cases kb : b.k = 2
    · exact im_b_i _ op a b ha hb hxa hxb (by omega) (by omega) ka kb (fun w => toA _ (im_io_x op a.m b.m (by omega) (by omega) (by omega) (by omega) (by omega) (by omega) (by omega) (by omega) (by omega) (by omega) w)) w
    · exact im_b_fj _ op a b ha hb hxa hxb (by omega) na nb ka kb (fun w => toA _ (im_fl_x op (by omega) (by omega) (by omega) (by omega) (by omega) (by omega) _ _ w)) w
  · exact im_b_fi _ op a b ha hb hxa hxb (by omega) na nb ka (fun w => toA _ (im_fl_x op (by omega) (by omega) (by omega) (by omega) (by omega) (by omega) _ _ w)) w
theorem im_noneh (op : Int) (h : 18 < op) (a b : Vv) (ha : vok a) (hb : vok b) (hxa : (a.x.size : Int) ≤ 1048576) (hxb : (b.x.size : Int) ≤ 1048576) (w : World) : Calls Tryz.prog 7 #[.int .i64 op, vv a, vv b] w fun e w' => (∃ c u, e = .returned (va c u) ∧ (An.ex 1 ⟨0, 0, 0, ⟨#[]⟩, 0⟩ (by show (0 : Nat) < _; omega)).is c u) ∧ Kq w w' := by
  by_cases na : nmb a
  case neg => exact toA _ (im_b_nah op a b ha hb hxa hxb (h) na w)
  by_cases nb : nmb b
  case neg =>
    by_cases ka : a.k = 2
    · exact toA _ (im_b_nbh2 op a b ha hb hxa hxb (h) na nb ka w)
    · exact toA _ (im_b_nbh3 op a b ha hb hxa hxb (h) na nb ka w)
  by_cases ka : a.k = 2
  · by_cases kb : b.k = 2
    · exact im_b_ih _ op a b ha hb hxa hxb (h) (by omega) ka kb (fun w => toA _ (im_io_x op a.m b.m (by omega) (by omega) (by omega) (by omega) (by omega) (by omega) (by omega) (by omega) (by omega) (by omega) w)) w
    · exact im_b_fjh _ op a b ha hb hxa hxb (h) na nb ka kb (fun w => toA _ (im_fl_x op (by omega) (by omega) (by omega) (by omega) (by omega) (by omega) _ _ w)) w
  · exact im_b_fih _ op a b ha hb hxa hxb (h) na nb ka (fun w => toA _ (im_fl_x op (by omega) (by omega) (by omega) (by omega) (by omega) (by omega) _ _ w)) w
theorem bin_both (op : Int) (a b : Vv) (ba : Vb a) (bb : Vb b) (hxa : (a.x.size : Int) ≤ 1048576) (hxb : (b.x.size : Int) ≤ 1048576) : ∃ A : An, (∀ w, Calls Tryz.prog 5 #[.int .i64 op, vv a, vv b] w fun e w' => (∃ c u, e = .returned (va c u) ∧ A.is c u) ∧ Kq w w') ∧ (∀ w, Tb w → Calls Tryz.prog 7 #[.int .i64 op, vv a, vv b] w fun e w' => (∃ c u, e = .returned (va c u) ∧ A.is c u) ∧ Kq w w') := by
  have z0 : (0 : Nat) < 18446744073709551616 := by omega
  by_cases ha : vok a
  case neg => exact ⟨.ex 1 ⟨0, 0, 0, ⟨#[]⟩, 0⟩ z0, fun w => toA _ (sp_b_a op a b ha hxa hxb w), fun w _ => toA _ (im_b_a op a b ha hxa hxb w)⟩
  by_cases hb : vok b
  case neg => exact ⟨.ex 1 ⟨0, 0, 0, ⟨#[]⟩, 0⟩ z0, fun w => toA _ (sp_b_b op a b ha hb hxa hxb w), fun w _ => toA _ (im_b_b op a b ha hb hxa hxb w)⟩
  by_cases j : op = 12
  · subst j
    by_cases ja : jn a
    case neg => exact ⟨.ex 1 ⟨0, 0, 0, ⟨#[]⟩, 0⟩ z0, fun w => toA _ (sp_b_ja a b ha hb hxa hxb ja w), fun w hT => im_b_j _ a b ha hb hxa hxb (fun w _ => toA _ (im_jo_a a b ja w)) w hT⟩
    by_cases jb : jn b
    case neg => exact ⟨.ex 1 ⟨0, 0, 0, ⟨#[]⟩, 0⟩ z0, fun w => toA _ (sp_b_jb a b ha hb hxa hxb ja jb w), fun w hT => im_b_j _ a b ha hb hxa hxb (fun w _ => toA _ (im_jo_b a b ja jb w)) w hT⟩
    obtain ⟨TA, zA, s1, i1⟩ := text_both a ba hxa
    obtain ⟨TB, zB, s2, i2⟩ := text_both b bb hxb
    by_cases hz : 4000 < (TA.size : Int) + (TB.size : Int)
    · exact ⟨.ex 4 ⟨0, 0, 0, ⟨#[]⟩, 0⟩ z0, fun w => toA _ (sp_b_jl a b ha hb hxa hxb ja jb TA TB s1 s2 zA zB hz w), fun w hT => im_b_j _ a b ha hb hxa hxb (fun w hT => toA _ (im_jo_l a b ja jb TA TB i1 i2 zA zB hz w hT)) w hT⟩
    · exact ⟨.ex 0 ⟨4, 0, 0, TA ++ TB, 0⟩ z0, fun w => toA _ (sp_b_jo a b ha hb hxa hxb ja jb TA TB s1 s2 zA zB hz w), fun w hT => im_b_j _ a b ha hb hxa hxb (fun w hT => toA _ (im_jo_o a b ja jb TA TB i1 i2 zA zB hz w hT)) w hT⟩
  by_cases e : op = 13
  · subst e
    obtain ⟨R, s, i⟩ := same_both a b ba bb hxa hxb
    exact ⟨.ex 0 ⟨1, R.toInt, 0, ⟨#[]⟩, 0⟩ z0, fun w => toA _ (sp_b_e a b ha hb hxa hxb R s w), fun w _ => toA _ (im_b_e a b ha hb hxa hxb R i w)⟩
  by_cases n : op = 14
  · subst n
    obtain ⟨R, s, i⟩ := same_both a b ba bb hxa hxb
    exact ⟨.ex 0 ⟨1, (!R).toInt, 0, ⟨#[]⟩, 0⟩ z0, fun w => toA _ (sp_b_n a b ha hb hxa hxb R s w), fun w _ => toA _ (im_b_n a b ha hb hxa hxb R i w)⟩
  by_cases o : 15 ≤ op ∧ op ≤ 18
  · obtain ⟨z, hz, s, i⟩ := comp_both2 a b ba bb hxa hxb
    by_cases h3 : z = 3
    · subst h3
      exact ⟨.ex 1 ⟨0, 0, 0, ⟨#[]⟩, 0⟩ z0, fun w => toA _ (sp_b_o3 op a b ha hb hxa hxb o.1 o.2 s w), fun w _ => im_b_o _ op a b ha hb hxa hxb o.1 o.2 3 i (fun w => toA _ (im_ord_3 op w)) w⟩
    · exact ⟨.ex 0 ⟨1, (ordb op z).toInt, 0, ⟨#[]⟩, 0⟩ z0, fun w => toA _ (sp_b_o op z o hz h3 a b ha hb hxa hxb s w), fun w _ => im_b_o _ op a b ha hb hxa hxb o.1 o.2 z i (fun w => toA _ (im_ord op z o hz h3 w)) w⟩
  by_cases xl : op < 1
  · exact ⟨_, fun w => toA z0 (sp_b_xl op a b ha hb hxa hxb xl w), fun w _ => im_none op xl a b ha hb hxa hxb w⟩
  by_cases xh : 18 < op
  · exact ⟨_, fun w => toA z0 (sp_b_xg op a b ha hb hxa hxb xh w), fun w _ => im_noneh op xh a b ha hb hxa hxb w⟩
  have o1 : 1 ≤ op := by omega
  have o2 : op ≤ 11 := by omega
  by_cases na : nmb a
  case neg => exact ⟨.ex 1 ⟨0, 0, 0, ⟨#[]⟩, 0⟩ z0, fun w => toA _ (sp_b_na op a b ha hb hxa hxb o1 o2 na w), fun w _ => toA _ (im_b_na op a b ha hb hxa hxb o2 na w)⟩
  by_cases nb : nmb b
  case neg =>
    by_cases ka : a.k = 2
    · exact ⟨.ex 1 ⟨0, 0, 0, ⟨#[]⟩, 0⟩ z0, fun w => toA _ (sp_b_nb2 op a b ha hb hxa hxb o1 o2 na nb ka w), fun w _ => toA _ (im_b_nb2 op a b ha hb hxa hxb o2 na nb ka w)⟩
    · exact ⟨.ex 1 ⟨0, 0, 0, ⟨#[]⟩, 0⟩ z0, fun w => toA _ (sp_b_nb3 op a b ha hb hxa hxb o1 o2 na nb ka w), fun w _ => toA _ (im_b_nb3 op a b ha hb hxa hxb o2 na nb ka w)⟩
  obtain ⟨A, h4, s, i⟩ := floats_both op (af a) (af b)
  by_cases ka : a.k = 2
  · by_cases kb : b.k = 2
    · by_cases n4 : op = 4
      · subst n4
        exact ⟨.fl (fo 4 (af a) (af b)), fun w => sp_b_i _ 4 a b ha hb hxa hxb o1 o2 ka kb (fun w => toF (sp_io_4 a.m b.m (af a) (af b) (if_pos ka).symm (if_pos kb).symm w)) w, fun w _ => im_b_fk _ 4 a b ha hb hxa hxb o2 na nb rfl ka kb (fun w => toF (im_fl_4 (af a) (af b) w)) w⟩
      · obtain ⟨c, u, hu, s, i⟩ := ints_both op a.m b.m ⟨o1, o2⟩ n4 ba.m bb.m
        exact ⟨.ex c u hu, fun w => sp_b_i _ op a b ha hb hxa hxb o1 o2 ka kb (fun w => toA _ (s w)) w, fun w _ => im_b_i _ op a b ha hb hxa hxb o2 n4 ka kb (fun w => toA _ (i w)) w⟩
    · exact ⟨A, fun w => sp_b_fj _ op a b ha hb hxa hxb o1 o2 na nb ka kb s w, fun w _ => im_b_fj _ op a b ha hb hxa hxb o2 na nb ka kb i w⟩
  · exact ⟨A, fun w => sp_b_fi _ op a b ha hb hxa hxb o1 o2 na nb ka s w, fun w _ => im_b_fi _ op a b ha hb hxa hxb o2 na nb ka i w⟩
end Go.Proofs.YtladepgpandklaaGreatDoor
