import Derived.Test.YtaggciimacanbaaMDkp
import Derived.Test.YtaggciimacanbaaMDkg
import Derived.Test.YtaggciimacanbaaMDkd
namespace Go.Proofs.Ytaggciimacanbaa.Fo
open Go.ChangeShapes Go.WideShapes Go.ChangeAt Go.RowKit
set_option linter.unusedVariables false
set_option maxRecDepth 100000
set_option linter.unusedSimpArgs false

theorem sm_mks9 {F : Nat → Ed} : ∀ n, (∀ i, i < n → (F i).c ≤ 64) → sm (mks 3 F) n ≤ n * 66
  | 0, _ => Nat.zero_le _
  | n + 1, h => by
    show sm (mks 3 F) n + mks 3 F n ≤ (n + 1) * 66
    have h1 := sm_mks9 n (fun i hi => h i (by omega))
    have h2 : mks 3 F n ≤ 66 := by have := h n (by omega); unfold mks; omega
    rw [Nat.add_mul, Nat.one_mul]
    omega
/-- what the model's Ops answers -/
def OsP (N : Nat) (F : Nat → Ed) (W : World) (e : Ending) (w' : World) : Prop := ∃ v, e = .returned v ∧ RowE 3 0 w' v N F ∧ Kb 0 W w'
/-- what the program's Ops answers -/
def OgP (N : Nat) (F : Nat → Ed) (W : World) (e : Ending) (w' : World) : Prop := ∃ v g V G, e = .returned v ∧ OwE 3 W.heap.size w'.heap.size w' v N F g V G ∧ Kb 0 W w'
theorem os_nil {F : Nat → Ed} {W : World} {e : Ending} {w' : World} (h : e = .returned (.slice none 0 0) ∧ Kb 0 W w') : OsP 0 F W e w' := ⟨_, h.1, ⟨none, 0, rfl, fun q => absurd q (Nat.lt_irrefl 0)⟩, h.2⟩
theorem og_be {F : Nat → Ed} {W w' : World} {v : Value} {N : Nat} {V : Nat → Value} {G : Nat → Nat} {e : Ending} (he : e = .returned v) (h : BE 3 W.heap.size 96 w' v N F V G) (k : Kb 0 W w') : OgP N F W e w' := by
  obtain ⟨g, h2⟩ := h.owE (.inr (.inr rfl))
  exact ⟨v, g, V, G, he, h2, k⟩
theorem og_nil {F : Nat → Ed} {W : World} {e : Ending} {w' : World} (h : e = .returned (.slice none 0 0) ∧ Kb 0 W w') : OgP 0 F W e w' := og_be h.1 (BE.nil 3 _ _ _ F (fun _ => .slice none 0 0) (fun _ => 0)) h.2
theorem opF_c (A : Nat → Int) (n sl f : Nat) (G : Int) (i : Nat) : (opF A n sl f G i).c ≤ 64 := by
  unfold opF
  split
  · exact Nat.le_refl _
  · split
    · exact Nat.le_refl _
    · exact Nat.zero_le _
theorem ops_none {D : Dd} {nk : Nat} {A : Nat → Int} (hs : ∀ v1 v2 pa ca w, RowD 0 w v1 v2 D → Calls Try.prog 32 #[.agg #[v1, v2], .slice pa nk ca] w fun e w' => e = .returned (.slice none 0 0) ∧ Kb 0 w w') (hi : ∀ v1 v2 pa ca w, RowD 0 w v1 v2 D → Calls Try.prog 33 #[.agg #[v1, v2], .slice pa nk ca] w fun e w' => e = .returned (.slice none 0 0) ∧ Kb 0 w w') :
    ∃ N F, N ≤ 200 ∧ (∀ i, i < N → (F i).c ≤ 64) ∧ (∀ v1 v2 pa ca w, RowD 0 w v1 v2 D → RowV w (.slice pa nk ca) nk (ub A) → Calls Try.prog 32 #[.agg #[v1, v2], .slice pa nk ca] w (OsP N F w)) ∧ (∀ v1 v2 pa ca w, RowD 0 w v1 v2 D → RowV w (.slice pa nk ca) nk (ub A) → Calls Try.prog 33 #[.agg #[v1, v2], .slice pa nk ca] w (OgP N F w)) :=
  ⟨0, fun _ => ⟨false, 0, 0, fun _ => 0⟩, Nat.zero_le _, fun i hi => absurd hi (Nat.not_lt_zero _), fun v1 v2 pa ca w h _ => (hs v1 v2 pa ca w h).mono (fun _ _ => os_nil), fun v1 v2 pa ca w h _ => (hi v1 v2 pa ca w h).mono (fun _ _ => og_nil)⟩
theorem ops_some {D : Dd} {nk : Nat} {A : Nat → Int} {sl f : Nat} {xg : Int} (hn : nk ≤ 8192) (hs : ∀ v1 v2 pa ca w, RowD 0 w v1 v2 D → RowV w (.slice pa nk ca) nk (ub A) → Calls Try.prog 32 #[.agg #[v1, v2], .slice pa nk ca] w fun e w' => ∃ v, e = .returned v ∧ RowE 3 0 w' v (opn nk + 3) (opF A nk sl f xg) ∧ Kb 0 w w')
    (hi : ∀ v1 v2 pa ca w, RowD 0 w v1 v2 D → RowV w (.slice pa nk ca) nk (ub A) → Calls Try.prog 33 #[.agg #[v1, v2], .slice pa nk ca] w fun e w' => ∃ v V G, e = .returned v ∧ BE 3 w.heap.size 96 w' v (opn nk + 3) (opF A nk sl f xg) V G ∧ Kb 0 w w') :
    ∃ N F, N ≤ 200 ∧ (∀ i, i < N → (F i).c ≤ 64) ∧ (∀ v1 v2 pa ca w, RowD 0 w v1 v2 D → RowV w (.slice pa nk ca) nk (ub A) → Calls Try.prog 32 #[.agg #[v1, v2], .slice pa nk ca] w (OsP N F w)) ∧ (∀ v1 v2 pa ca w, RowD 0 w v1 v2 D → RowV w (.slice pa nk ca) nk (ub A) → Calls Try.prog 33 #[.agg #[v1, v2], .slice pa nk ca] w (OgP N F w)) :=
  ⟨opn nk + 3, opF A nk sl f xg, by have := opn_le hn; omega, fun i _ => opF_c _ _ _ _ _ i, fun v1 v2 pa ca w h h2 => hs v1 v2 pa ca w h h2, fun v1 v2 pa ca w h h2 => (hi v1 v2 pa ca w h h2).mono (fun e w' ⟨v, V, G, q1, q2, q3⟩ => og_be q1 q2 q3)⟩
theorem rowe_slice {K b : Nat} {W : World} {v : Value} {n : Nat} {F : Nat → Ed} (h : RowE K b W v n F) : ∃ p m c, v = .slice p m c := by
  obtain ⟨p, c, e, _⟩ := h
  exact ⟨p, n, c, e⟩
theorem ops_any {D : Dd} {nk : Nat} {A : Nat → Int} (hd : BdD D) (hg : RgD D) (hA : ∀ i, i < nk → 0 ≤ A i ∧ A i ≤ 255) :
    ∃ N F, N ≤ 200 ∧ (∀ i, i < N → (F i).c ≤ 64) ∧ (∀ v1 v2 pa ca w, RowD 0 w v1 v2 D → RowV w (.slice pa nk ca) nk (ub A) → Calls Try.prog 32 #[.agg #[v1, v2], .slice pa nk ca] w (OsP N F w)) ∧ (∀ v1 v2 pa ca w, RowD 0 w v1 v2 D → RowV w (.slice pa nk ca) nk (ub A) → Calls Try.prog 33 #[.agg #[v1, v2], .slice pa nk ca] w (OgP N F w)) := by
  by_cases hok : Dok D
  rotate_left
  · exact ops_none (fun v1 v2 pa ca w h => sp_ops_1 w h hd hok) (fun v1 v2 pa ca w h => im_ops_1 w h hd hok)
  by_cases hm : D.m = 0
  rotate_left
  · exact ops_none (fun v1 v2 pa ca w h => sp_ops_2 w h hd hok (by omega)) (fun v1 v2 pa ca w h => im_ops_2 w h hd hok (by omega))
  by_cases hn0 : nk = 0
  · exact ops_none (fun v1 v2 pa ca w h => sp_ops_3 w h hd hok (by omega) (by omega)) (fun v1 v2 pa ca w h => im_ops_3 w h hd hok (by omega) (by omega))
  by_cases hn : nk ≤ 8192
  rotate_left
  · exact ops_none (fun v1 v2 pa ca w h => sp_ops_4 w h hd hok (by omega) (by omega)) (fun v1 v2 pa ca w h => im_ops_4 w h hd hok (by omega) (by omega))
  have hn1 : 0 < nk := by omega
  obtain ⟨X, x1, x2, -, hS, hI⟩ := newest_ok hd hok hg
  obtain ⟨xok, xG, xs, xN, xA⟩ := X
  have rowa : ∀ {pa : Option Addr} {ca : Nat} {w : World}, RowV w (.slice pa nk ca) nk (ub A) → ∃ a, pa = some a ∧ nk ≤ ca ∧ ∀ i, i < nk → w.cell? (a.add i) = some (.int .u8 (A i)) := fun {pa ca w} h => by
    obtain ⟨pa', ca', e, h2⟩ := h
    injection e with e1 e2 e3
    subst e1 e3
    exact h2 hn1
  cases xok with
  | true =>
    obtain ⟨y1, y2, y3⟩ := x1 rfl
    dsimp only at y1 y2 y3
    by_cases hmx : xG = 1000000000000
    · subst hmx
      rcases y3 with rfl | rfl
      · exact ops_none (fun v1 v2 pa ca w h => (sp_ops_go (R := fun v w' => v = .slice none 0 0) w h hd hok hm hn1 hn (fun x1 x2 W _ hr => (sp_lops_max0 W hr (fun x1 x2 W hr => hS x1 x2 W hr)).mono (fun e w' ⟨q1, q2⟩ => ⟨_, q1, ⟨none, 0, 0, rfl⟩, rfl, q2⟩))).mono (fun e w' ⟨v, q1, q2, q3⟩ => ⟨by rw [q1, q2], q3⟩)) (fun v1 v2 pa ca w h => im_ops_max w h hd hok hm hn1 hn (fun x1 x2 W hr => hI x1 x2 W hr))
      · exact ops_none (fun v1 v2 pa ca w h => (sp_ops_go (R := fun v w' => v = .slice none 0 0) w h hd hok hm hn1 hn (fun x1 x2 W _ hr => (sp_lops_max1 W hr (fun x1 x2 W hr => hS x1 x2 W hr)).mono (fun e w' ⟨q1, q2⟩ => ⟨_, q1, ⟨none, 0, 0, rfl⟩, rfl, q2⟩))).mono (fun e w' ⟨v, q1, q2, q3⟩ => ⟨by rw [q1, q2], q3⟩)) (fun v1 v2 pa ca w h => im_ops_max w h hd hok hm hn1 hn (fun x1 x2 W hr => hI x1 x2 W hr))
    rcases y3 with rfl | rfl
    · refine ops_some (sl := 1) (f := 130) (xg := xG) hn (fun v1 v2 pa ca w h h2 => (sp_ops_go (R := fun v w' => RowE 3 0 w' v (opn nk + 3) (opF A nk 1 130 xG)) w h hd hok hm hn1 hn (fun x1 x2 W kW hr => (sp_lops_1 (xg := xG) W hr (rowv_kq h2 kW) hn1 hn hA (by omega) (by omega) (fun x1 x2 W hr => hS x1 x2 W hr)).mono (fun e w' ⟨v, q1, q2, q3⟩ => ⟨v, q1, rowe_slice q2, q2, q3⟩)))) (fun v1 v2 pa ca w h h2 => ?_)
      obtain ⟨a, rfl, r1, r2⟩ := rowa h2
      exact im_ops_y1 (xg := xG) w h hd hok hm hn1 hn r1 (by omega) (by omega) r2 hA (fun x1 x2 W hr => hI x1 x2 W hr)
    · refine ops_some (sl := 0) (f := 2) (xg := xG) hn (fun v1 v2 pa ca w h h2 => (sp_ops_go (R := fun v w' => RowE 3 0 w' v (opn nk + 3) (opF A nk 0 2 xG)) w h hd hok hm hn1 hn (fun x1 x2 W kW hr => (sp_lops_0b (xg := xG) W hr (rowv_kq h2 kW) hn1 hn hA (by omega) (by omega) (fun x1 x2 W hr => hS x1 x2 W hr)).mono (fun e w' ⟨v, q1, q2, q3⟩ => ⟨v, q1, rowe_slice q2, q2, q3⟩)))) (fun v1 v2 pa ca w h h2 => ?_)
      obtain ⟨a, rfl, r1, r2⟩ := rowa h2
      exact im_ops_y2 (xg := xG) w h hd hok hm hn1 hn r1 (by omega) (by omega) r2 hA (fun x1 x2 W hr => hI x1 x2 W hr)
  | false =>
    have e := x2 rfl
    unfold zK at e
    injection e with e1 e2 e3 e4 e5
    subst e2 e3 e4 e5
    refine ops_some (sl := 0) (f := 2) (xg := 0) hn (fun v1 v2 pa ca w h h2 => (sp_ops_go (R := fun v w' => RowE 3 0 w' v (opn nk + 3) (opF A nk 0 2 0)) w h hd hok hm hn1 hn (fun x1 x2 W kW hr => (sp_lops_0a (xg := 0) W hr (rowv_kq h2 kW) hn1 hn hA (by omega) (by omega) (fun x1 x2 W hr => hS x1 x2 W hr)).mono (fun e w' ⟨v, q1, q2, q3⟩ => ⟨v, q1, rowe_slice q2, q2, q3⟩)))) (fun v1 v2 pa ca w h h2 => ?_)
    obtain ⟨a, rfl, r1, r2⟩ := rowa h2
    exact im_ops_y3 (xg := 0) w h hd hok hm hn1 hn r1 (by omega) (by omega) r2 hA (fun x1 x2 W hr => hI x1 x2 W hr)
end Go.Proofs.Ytaggciimacanbaa.Fo
