import Derived.Test.YtladepgpandklaaGreatDoorMVay
import Derived.Test.YtladepgpandklaaGreatDoorMVaz
import Derived.Test.YtladepgpandklaaGreatDoorMVbd
import Derived.Test.YtladepgpandklaaGreatDoorMVbc
namespace Go.Proofs.YtladepgpandklaaGreatDoor
open Go.ChangeShapes Go.WideShapes Go.ChangeAt Go.RowKit
set_option linter.unusedVariables false
set_option maxRecDepth 100000
theorem same_both (a b : Vv) (ba : Vb a) (bb : Vb b) (hxa : (a.x.size : Int) ≤ 1048576) (hxb : (b.x.size : Int) ≤ 1048576) : ∃ R : Bool, (∀ w, Calls Tryz.prog 16 #[vv a, vv b] w fun e w' => e = .returned (.bool R) ∧ Grown w w') ∧ (∀ w, Calls Tryz.prog 26 #[vv a, vv b] w fun e w' => e = .returned (.bool R) ∧ Grown w w') := by
  by_cases ha : vok a
  case neg => exact ⟨_, fun w => sp_sm_a a b ha hxa hxb w, fun w => im_sm_a a b ha hxa hxb w⟩
  by_cases hb : vok b
  case neg => exact ⟨_, fun w => sp_sm_b a b ha hb hxa hxb w, fun w => im_sm_b a b ha hb hxa hxb w⟩
  by_cases na : nmb a
  · by_cases nb : nmb b
    · obtain ⟨z, h1, h2⟩ := num_both a b ha hb hxa hxb ba bb na nb
      by_cases hz : z = 0
      · exact ⟨_, fun w => sp_sm_z a b ha hb hxa hxb na nb z hz h1 w, fun w => im_sm_z a b ha hb hxa hxb na nb z hz h2 w⟩
      · exact ⟨_, fun w => sp_sm_n a b ha hb hxa hxb na nb z hz h1 w, fun w => im_sm_n a b ha hb hxa hxb na nb z hz h2 w⟩
    · exact ⟨_, fun w => sp_sm_t a b ha hb hxa hxb na nb w, fun w => im_sm_t a b ha hb hxa hxb na nb w⟩
  by_cases hk : a.k = b.k
  case neg => exact ⟨_, fun w => sp_sm_k a b ha hb hxa hxb na hk w, fun w => im_sm_k a b ha hb hxa hxb na hk w⟩
  have hz := fz_eq ba.g bb.g (vok_fz ha (fun e => na (.inr e))) (vok_fz hb (fun e => na (.inr (hk.trans e))))
  by_cases hm : a.m = b.m
  case neg => exact ⟨_, fun w => sp_sm_m a b ha hb hxa hxb na hk hz hm w, fun w => im_sm_m a b ha hb hxa hxb na hk hz hm w⟩
  by_cases hx : a.x.toList = b.x.toList
  case neg => exact ⟨_, fun w => sp_sm_x a b ha hb hxa hxb na hk hz hm hx w, fun w => im_sm_x a b ha hb hxa hxb na hk hz hm hx w⟩
  by_cases hr : a.r = b.r
  case neg => exact ⟨_, fun w => sp_sm_r a b ha hb hxa hxb na hk hz hm hx hr w, fun w => im_sm_r a b ha hb hxa hxb na hk hz hm hx hr w⟩
  exact ⟨_, fun w => sp_sm_e a b ha hb hxa hxb na hk hz hm hx hr w, fun w => im_sm_e a b ha hb hxa hxb na hk hz hm hx hr w⟩
theorem comp_both (a b : Vv) (ba : Vb a) (bb : Vb b) (hxa : (a.x.size : Int) ≤ 1048576) (hxb : (b.x.size : Int) ≤ 1048576) : ∃ R : Int, (∀ w, Calls Tryz.prog 17 #[vv a, vv b] w fun e w' => e = .returned (.int .i64 R) ∧ Grown w w') ∧ (∀ w, Calls Tryz.prog 28 #[vv a, vv b] w fun e w' => e = .returned (.int .i64 R) ∧ Grown w w') := by
  by_cases ha : vok a
  case neg => exact ⟨_, fun w => sp_cp_a a b ha hxa hxb w, fun w => im_cp_a a b ha hxa hxb w⟩
  by_cases hb : vok b
  case neg => exact ⟨_, fun w => sp_cp_b a b ha hb hxa hxb w, fun w => im_cp_b a b ha hb hxa hxb w⟩
  by_cases na : nmb a
  · by_cases nb : nmb b
    · obtain ⟨z, h1, h2⟩ := num_both a b ha hb hxa hxb ba bb na nb
      exact ⟨z, h1, fun w => im_cp_z a b ha hb hxa hxb na nb z h2 w⟩
    · exact ⟨_, fun w => sp_cp_t a b ha hb hxa hxb na nb w, fun w => im_cp_t a b ha hb hxa hxb na nb w⟩
  by_cases ka : a.k = 4
  · by_cases kb : b.k = 4
    · exact ⟨_, fun w => sp_cp_s a b ha hb hxa hxb ka kb w, fun w => im_cp_s a b ha hb hxa hxb ka kb w⟩
    · exact ⟨_, fun w => sp_cp_n4 a b ha hb hxa hxb na ka kb w, fun w => im_cp_n4 a b ha hb hxa hxb na ka kb w⟩
  exact ⟨_, fun w => sp_cp_n a b ha hb hxa hxb na ka w, fun w => im_cp_n a b ha hb hxa hxb na ka w⟩
end Go.Proofs.YtladepgpandklaaGreatDoor
