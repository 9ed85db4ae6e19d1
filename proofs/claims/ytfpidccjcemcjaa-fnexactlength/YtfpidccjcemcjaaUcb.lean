import Derived.Test.YtfpidccjcemcjaaUca
import Derived.Test.YtfpidccjcemcjaaVax
namespace Go.Proofs.Ytfpidccjcemcjaa
open Go.ChangeShapes Go.WideShapes Go.ChangeAt Go.RowKit
set_option linter.unusedVariables false
set_option maxRecDepth 100000

/-- a value is a key -/
def kok (v : Vv) : Prop := vok v ∧ ¬ v.k = 0 ∧ (v.k = 3 → FloatKind.f64.format.order v.g v.g = some .eq ∧ ∀ z, ¬ wh v.g z)
/-- a key's mark -/
structure Mk where
  k : Int
  n : Int
  x : List UInt8
  r : Int
def mk (v : Vv) : Mk := ⟨v.k, if v.k = 3 then wrap64 (v.g : Int) else v.m, v.x.toList, v.r⟩
theorem kok_zero {v : Vv} (h : kok v) (hk : v.k = 3) (hg : v.g < 18446744073709551616) : FloatKind.f64.format.order v.g 0 ≠ some .eq := by
  intro e
  obtain ⟨h1, h2⟩ := h.2.2 hk
  rcases Flt.zero_cases v.g hg with g | ⟨_, _, g⟩ | ⟨_, g⟩
  · rw [g] at h1; cases h1
  · rcases g with g | g
    · exact h2 0 (by rw [g]; exact ⟨by decide, by decide, .inl (by decide), by decide, by decide⟩)
    · exact h2 0 (by rw [g]; exact ⟨by decide, by decide, .inl (by decide), by decide, by decide⟩)
  · rcases g with g | g <;> (rw [g] at e; cases e)
theorem wrap_inj {x y : Nat} (hx : x < 18446744073709551616) (hy : y < 18446744073709551616) (h : wrap64 (x : Int) = wrap64 (y : Int)) : x = y := by
  unfold wrap64 at h
  omega
set_option maxHeartbeats 4000000 in
theorem sp_if_n (i : Int) (x : Nat) (hx : x < 18446744073709551616) (hn : FloatKind.f64.format.order x x = some .eq) (h : ∀ z, ¬ wh x z) : ∃ z : Int, (z = -1 ∨ z = 1) ∧ ∀ w, Calls Try.prog 80 #[.int .i64 i, .float .f64 x] w fun e w' => e = .returned (.int .i64 z) ∧ Grown w w' := by
  rcases Flt.range_facts x hx with h0 | ⟨_, ⟨h1 | h1, h2⟩ | ⟨h1, h2⟩ | ⟨h1, h2, z, y, hz, hy⟩⟩
  · rw [hn] at h0; cases h0
  · clear h
    refine ⟨-1, .inl rfl, fun w => ?_⟩
    go_enter Try.func80, Try.ntmps80
    go_wp2_with fail
    go_ret
    exact ⟨rfl, by go_grown⟩
  · clear h
    refine ⟨-1, .inl rfl, fun w => ?_⟩
    go_enter Try.func80, Try.ntmps80
    go_wp2_with fail
    go_ret
    exact ⟨rfl, by go_grown⟩
  · clear h
    refine ⟨1, .inr rfl, fun w => ?_⟩
    go_enter Try.func80, Try.ntmps80
    go_wp2_with fail
    go_ret
    exact ⟨rfl, by go_grown⟩
  · have hb : (FloatKind.f64.format.order x (Flt.floorW x) == some .eq) = false := by
      cases q : (FloatKind.f64.format.order x (Flt.floorW x) == some .eq)
      · rfl
      · exact absurd ⟨hn, h1, h2, q, hz⟩ (h z)
    have hgt := Flt.floor_le x hx hn hb
    have hc := conv_run hy
    have HL := fun w => spec_floor x hx w hn
    clear h hz hy hb hx hn
    rcases Int.lt_trichotomy i y with q | q | q
    · refine ⟨-1, .inl rfl, fun w => ?_⟩
      rcases h2 with h2 | h2
      all_goals
        go_enter Try.func80, Try.ntmps80
        go_wp2_with (go_at_call 34; refine (HL _).mono ?_; rintro e w' ⟨rfl, rfl⟩)
        go_ret
        exact ⟨rfl, by go_grown⟩
    · subst q
      refine ⟨-1, .inl rfl, fun w => ?_⟩
      rcases h2 with h2 | h2
      all_goals
        go_enter Try.func80, Try.ntmps80
        go_wp2_with (go_at_call 34; refine (HL _).mono ?_; rintro e w' ⟨rfl, rfl⟩)
        go_ret
        exact ⟨rfl, by go_grown⟩
    · refine ⟨1, .inr rfl, fun w => ?_⟩
      have q2 : ¬ i < y := by omega
      rcases h2 with h2 | h2
      all_goals
        go_enter Try.func80, Try.ntmps80
        go_wp2_with (go_at_call 34; refine (HL _).mono ?_; rintro e w' ⟨rfl, rfl⟩)
        go_ret
        exact ⟨rfl, by go_grown⟩
theorem sp_cmp_key (a b : Vv) (ka : kok a) (kb : kok b) (ba : Vb a) (bb : Vb b) (hxa : (a.x.size : Int) ≤ 1048576) (hxb : (b.x.size : Int) ≤ 1048576) (na : nmb a) (nb : nmb b) : ∃ z : Int, (z = 0 ↔ mk a = mk b) ∧ ∀ w, Calls Try.prog 64 #[vv a, vv b] w fun e w' => e = .returned (.int .i64 z) ∧ Grown w w' := by
  have ha := ka.1
  have hb := kb.1
  rcases na with k1 | k1 <;> rcases nb with k2 | k2
  · have e : mk a = mk b ↔ a.m = b.m := by
      have z1 := (vok2 k1).1 ha
      have z2 := (vok2 k2).1 hb
      unfold zr at z1 z2
      simp at z1 z2
      unfold mk
      rw [k1, k2]
      simp [z1, z2]
    rcases Int.lt_trichotomy a.m b.m with q | q | q
    · exact ⟨-1, by rw [e]; omega, fun w => sp_ii_lt a b ha hb hxa hxb k1 k2 q w⟩
    · exact ⟨0, by rw [e]; omega, fun w => sp_ii_eq a b ha hb hxa hxb k1 k2 q w⟩
    · exact ⟨1, by rw [e]; omega, fun w => sp_ii_gt a b ha hb hxa hxb k1 k2 q w⟩
  · obtain ⟨hn, hw⟩ := kb.2.2 k2
    obtain ⟨z, hz, HZ⟩ := sp_if_n a.m b.g bb.g hn hw
    refine ⟨z, ?_, fun w => sp_if a b ha hb hxa hxb k1 k2 hn z HZ w⟩
    have : ¬ mk a = mk b := by
      intro e
      have := congrArg Mk.k e
      unfold mk at this
      simp [k1, k2] at this
    constructor
    · intro h; rcases hz with g | g <;> omega
    · intro h; exact absurd h this
  · obtain ⟨hn, hw⟩ := ka.2.2 k1
    obtain ⟨z, hz, HZ⟩ := sp_if_n b.m a.g ba.g hn hw
    have : ¬ mk a = mk b := by
      intro e
      have := congrArg Mk.k e
      unfold mk at this
      simp [k1, k2] at this
    rcases hz with rfl | rfl
    · exact ⟨1, ⟨fun h => by omega, fun h => absurd h this⟩, fun w => sp_fi_m a b ha hb hxa hxb k1 k2 hn HZ w⟩
    · exact ⟨-1, ⟨fun h => by omega, fun h => absurd h this⟩, fun w => sp_fi_p a b ha hb hxa hxb k1 k2 hn HZ w⟩
  · obtain ⟨hn, hw⟩ := ka.2.2 k1
    obtain ⟨hn2, hw2⟩ := kb.2.2 k2
    have z0 := kok_zero ka k1 ba.g
    have e : mk a = mk b ↔ a.g = b.g := by
      have z1 := (vok3 k1).1 ha
      have z2 := (vok3 k2).1 hb
      unfold zr at z1 z2
      simp at z1 z2
      unfold mk
      rw [if_pos k1, if_pos k2, k1, k2]
      simp [z1, z2]
      exact ⟨fun h => wrap_inj ba.g bb.g h, fun h => by rw [h]⟩
    obtain ⟨o, ho⟩ := fl_some a.g b.g hn hn2
    cases o with
    | lt => exact ⟨-1, ⟨fun h => by omega, fun h => by rw [e] at h; rw [h, hn2] at ho; cases ho⟩, fun w => sp_ff_lt a b ha hb hxa hxb k1 k2 hn hn2 ho w⟩
    | eq => exact ⟨0, ⟨fun _ => e.2 (Flt.order_eq _ _ ba.g bb.g ho z0), fun _ => rfl⟩, fun w => sp_ff_eq a b ha hb hxa hxb k1 k2 hn hn2 ho w⟩
    | gt => exact ⟨1, ⟨fun h => by omega, fun h => by rw [e] at h; rw [h, hn2] at ho; cases ho⟩, fun w => sp_ff_gt a b ha hb hxa hxb k1 k2 hn hn2 ho w⟩
theorem sp_same (a b : Vv) (ka : kok a) (kb : kok b) (ba : Vb a) (bb : Vb b) (hxa : (a.x.size : Int) ≤ 1048576) (hxb : (b.x.size : Int) ≤ 1048576) (w : World) : Calls Try.prog 41 #[vv a, vv b] w fun e w' => e = .returned (.bool (dc (mk a = mk b))) ∧ Grown w w' := by
  have ha := ka.1
  have hb := kb.1
  by_cases na : nmb a
  · by_cases nb : nmb b
    · obtain ⟨z, hz, HZ⟩ := sp_cmp_key a b ka kb ba bb hxa hxb na nb
      by_cases h0 : z = 0
      · rw [dc_t (hz.1 h0)]
        exact sp_sm_z a b ha hb hxa hxb na nb z h0 HZ w
      · rw [dc_f (fun h => h0 (hz.2 h))]
        exact sp_sm_n a b ha hb hxa hxb na nb z h0 HZ w
    · have : ¬ mk a = mk b := by
        intro e
        have := congrArg Mk.k e
        unfold mk at this
        dsimp only at this
        apply nb
        unfold nmb at na ⊢
        rw [← this]; exact na
      rw [dc_f this]
      exact sp_sm_t a b ha hb hxa hxb na nb w
  by_cases hk : a.k = b.k
  case neg =>
    rw [dc_f (fun e => hk (congrArg Mk.k e))]
    exact sp_sm_k a b ha hb hxa hxb na hk w
  have n3 : ¬ a.k = 3 := fun e => na (.inr e)
  have n3' : ¬ b.k = 3 := fun e => na (.inr (hk.trans e))
  have hz := fz_eq ba.g bb.g (vok_fz ha n3) (vok_fz hb n3')
  have e : mk a = mk b ↔ a.m = b.m ∧ a.x.toList = b.x.toList ∧ a.r = b.r := by
    unfold mk
    rw [if_neg n3, if_neg n3', hk]
    simp
  by_cases hm : a.m = b.m
  case neg => rw [dc_f (fun h => hm (e.1 h).1)]; exact sp_sm_m a b ha hb hxa hxb na hk hz hm w
  by_cases hx : a.x.toList = b.x.toList
  case neg => rw [dc_f (fun h => hx (e.1 h).2.1)]; exact sp_sm_x a b ha hb hxa hxb na hk hz hm hx w
  by_cases hr : a.r = b.r
  case neg => rw [dc_f (fun h => hr (e.1 h).2.2)]; exact sp_sm_r a b ha hb hxa hxb na hk hz hm hx hr w
  rw [dc_t (e.2 ⟨hm, hx, hr⟩)]
  exact sp_sm_e a b ha hb hxa hxb na hk hz hm hx hr w
end Go.Proofs.Ytfpidccjcemcjaa
