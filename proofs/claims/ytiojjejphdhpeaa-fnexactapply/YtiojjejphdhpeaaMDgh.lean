import Derived.Test.YtiojjejphdhpeaaMDgg
import Derived.Test.YtiojjejphdhpeaaMDei
namespace Go.Proofs.Ytiojjejphdhpeaa.Fo
open Go.ChangeShapes Go.WideShapes Go.ChangeAt Go.RowKit
set_option linter.unusedVariables false
set_option maxRecDepth 100000
set_option linter.unusedSimpArgs false
/-- elements that are as good as others -/
def Eqv (K : Nat) (n : Nat) (F F' : Nat → Ed) : Prop := ∀ i, i < n → hdl K (F i) = hdl K (F' i) ∧ (F i).c = (F' i).c ∧ ∀ j, j < (F i).c → (F i).A j = (F' i).A j
theorem OwE.congr {K L H : Nat} {W : World} {v : Value} {n : Nat} {F F' : Nat → Ed} {g : Nat} {V : Nat → Value} {G : Nat → Nat} (h : OwE K L H W v n F g V G) (e : Eqv K n F F') : OwE K L H W v n F' g V G :=
  ⟨h.sl, h.bg, fun j hj t ht => by rw [h.cs j hj t ht]; show (hdl K (F j) ++ [V j])[t]? = (hdl K (F' j) ++ [V j])[t]?; rw [(e j hj).1], h.fz, fun i hi => by
    have o := h.ow i hi
    obtain ⟨-, e2, e3⟩ := e i hi
    refine ⟨by rw [← e2]; exact o.sl, fun j hj => ?_, by rw [← e2]; exact o.fz⟩
    rw [o.cell j (by omega)]
    unfold ub
    rw [e3 j (by omega)], fun i hi => by rw [← (e i hi).2.1]; exact h.lo i hi, fun i j hi hj => by rw [← (e i hi).2.1, ← (e j hj).2.1]; exact h.di i j hi hj⟩
theorem OwD.congr {L H : Nat} {W : World} {v1 v2 : Value} {D D' : Dd} (h : OwD L H W v1 v2 D) (en : D.n = D'.n) (em : D.m = D'.m) (eB : Eqv 1 D.n D.B D'.B) (eQ : Eqv 2 D.m D.Q D'.Q) : OwD L H W v1 v2 D' := by
  obtain ⟨M, g, V, G, g', V', G', h1, h2, h3, h4⟩ := h
  exact ⟨M, g, V, G, g', V', G', by rw [← en]; exact h1.congr eB, by rw [← em]; exact h2.congr eQ, h3, h4⟩
theorem sm_const (c : Nat) : ∀ n, sm (fun _ => c) n = n * c
  | 0 => by rw [Nat.zero_mul]; rfl
  | n + 1 => by
    show sm (fun _ => c) n + c = (n + 1) * c
    rw [sm_const c n, Nat.add_mul, Nat.one_mul]
theorem bd_waits (P : Nat → Nat → Int) (m : Nat) (Q : Nat → Ed) (hm : m ≤ 200) : BdD ⟨258, pE P, m, qE Q⟩ := bd_of (by
  show (258 + sm (fun _ => 64) 258) + (m + sm (fun _ => 64) m) ≤ 1048576
  rw [sm_const, sm_const]
  omega)
theorem put_any {D : Dd} {nk : Nat} {A : Nat → Int} (b : Int) (hd : BdD D) (hnk : nk ≤ 1048576) : ∃ D', BdD D' ∧ (∀ v1 v2 vk w, RowD 0 w v1 v2 D → RowV w vk nk (fun i => .int .u8 (A i)) → Calls Try.prog 10 #[.agg #[v1, v2], .int .i64 b, vk] w (DsP D' w)) ∧ (∀ v1 v2 vk w, RowD 0 w v1 v2 D → RowV w vk nk (fun i => .int .u8 (A i)) → Calls Try.prog 13 #[.agg #[v1, v2], .int .i64 b, vk] w (DsP D' w)) := by
  by_cases h : Dok D ∧ Wok b nk ∧ ¬ D.m = 200
  · obtain ⟨hok, ⟨hb1, hb2, rfl⟩, hm⟩ := h
    have hm2 : D.m < 200 := by have := hok.2.1; omega
    refine ⟨_, bd_waits (dpg D) (D.m + 1) (fun j => if j = D.m then ⟨false, b, 64, A⟩ else D.Q j) (by omega), fun v1 v2 vk w ha hk => ?_, fun v1 v2 vk w ha hk => im_Put_yes b w ha hd hk hok ⟨hb1, hb2⟩ hm2⟩
    obtain ⟨pk, ck, rfl, -⟩ := id hk
    refine (sp_put_yes b w ha hd hok ⟨hb1, hb2⟩ hk hm2).mono ?_
    rintro e w' ⟨u1, u2, h1, h2, h3⟩
    refine ⟨u1, u2, h1, h2.congr hok.1 rfl (fun i hi => ⟨rfl, hok.2.2.1 i hi, fun j _ => rfl⟩) (fun i hi => ?_), h3⟩
    have hi2 : i < D.m + 1 := hi
    show hdl 2 (if i = D.m then _ else _) = hdl 2 (qE _ i) ∧ Ed.c (if i = D.m then _ else _) = 64 ∧ ∀ j, j < Ed.c (if i = D.m then _ else _) → Ed.A (if i = D.m then _ else _) j = Ed.A (if i = D.m then _ else _) j
    refine ⟨rfl, ?_, fun j _ => rfl⟩
    by_cases e : i = D.m
    · rw [if_pos e]
    · rw [if_neg e]
      exact (hok.2.2.2 i (by omega)).2.2
  · have hno : ¬ Dok D ∨ ¬ Wok b nk ∨ D.m = 200 := by
      by_cases h1 : Dok D
      · by_cases h2 : Wok b nk
        · exact .inr (.inr (Decidable.byContradiction fun h3 => h ⟨h1, h2, h3⟩))
        · exact .inr (.inl h2)
      · exact .inl h1
    refine ⟨_, bd_none, fun v1 v2 vk w ha hk => ?_, fun v1 v2 vk w ha hk => (im_Put_no b w ha hd hk hnk hno).mono (fun e w' ⟨h1, h2⟩ => ds_none h1 h2)⟩
    obtain ⟨pk, ck, rfl, -⟩ := id hk
    have fin : ∀ {e : Ending} {w' : World}, e = .returned (.agg #[.slice none 0 0, .slice none 0 0]) ∧ Kb 0 w w' → DsP ⟨0, fun _ => zE, 0, fun _ => zE⟩ w e w' := fun ⟨h1, h2⟩ => ds_none h1 h2
    by_cases h1 : Dok D
    · by_cases h2 : b < 0
      · exact (sp_put_n2 b w ha hd h1 h2).mono (fun e w' q => fin q)
      · by_cases h3 : 258 ≤ b
        · exact (sp_put_n3 b w ha hd h1 (by omega) h3).mono (fun e w' q => fin q)
        · by_cases h4 : nk = 64
          · have h5 : D.m = 200 := by
              rcases hno with q | q | q
              · exact absurd h1 q
              · exact absurd ⟨by omega, by omega, h4⟩ q
              · exact q
            exact (sp_put_n5 b w ha hd h1 (by omega) (by omega) (by omega) h5).mono (fun e w' q => fin q)
          · exact (sp_put_n4 b w ha hd h1 (by omega) (by omega) h4).mono (fun e w' q => fin q)
    · exact (sp_put_n1 b w ha hd h1).mono (fun e w' q => fin q)
end Go.Proofs.Ytiojjejphdhpeaa.Fo
