import Derived.Test.YtfpidccjcemcjaaUea
namespace Go.Proofs.Ytfpidccjcemcjaa
open Go.ChangeShapes Go.WideShapes Go.ChangeAt Go.RowKit
set_option linter.unusedVariables false
set_option maxRecDepth 100000

theorem flat_at : ∀ (P : List Pv) (i t : Nat) (p : Pv), P[i]? = some p → t < 11 → (P.flatMap pcl)[i * 11 + t]? = (pcl p)[t]?
  | [], i, t, p, h, _ => by simp at h
  | q :: P, 0, t, p, h, ht => by
    have : q = p := by simpa using h
    subst this
    rw [List.flatMap_cons, List.getElem?_append_left (by show 0 * 11 + t < 11; omega)]
    rw [Nat.zero_mul, Nat.zero_add]
  | q :: P, i + 1, t, p, h, ht => by
    have h' : P[i]? = some p := by simpa using h
    rw [List.flatMap_cons, List.getElem?_append_right (by show 11 ≤ (i + 1) * 11 + t; omega)]
    have e : (i + 1) * 11 + t - (pcl q).length = i * 11 + t := by show (i + 1) * 11 + t - 11 = _; omega
    rw [e]
    exact flat_at P i t p h' ht
theorem own_pairs {W : World} {base : Nat} {v : Value} {n : Nat} {F : Nat → Pv} (h : W.ownsRow base 51 11 v (lsp F n).length ((lsp F n).flatMap pcl)) : ∃ g, OwnP W v g n F ∧ (0 < n → base ≤ g ∧ g < W.heap.size) := by
  rw [lsp_len] at h
  rcases Nat.eq_zero_or_pos n with h0 | h0
  · refine ⟨0, ⟨?_, fun i hi => by omega, fun hn => by omega⟩, fun hn => by omega⟩
    rcases h.2 with ⟨e1, e2⟩ | ⟨g, cap, cur, e1, _⟩
    · exact ⟨none, 0, by rw [e1, h0], fun hn => by omega⟩
    · exact ⟨_, cap, e1, fun hn => by omega⟩
  · obtain ⟨g, cap, rfl, hcap, _⟩ := h.form h0
    have hc : n ≤ cap := by
      rcases h.2 with ⟨e1, e2⟩ | ⟨g', cap', cur, e1, _, _, e4, _⟩
      · omega
      · simp only [Value.slice.injEq] at e1
        obtain ⟨_, _, rfl⟩ := e1
        exact e4
    refine ⟨g, ⟨⟨_, cap, rfl, fun _ => ⟨rfl, hc⟩⟩, fun i hi => ?_, fun _ j => h.frozenAt j⟩, fun _ => h.lt g rfl⟩
    have he : (lsp F n)[i]? = some (F i) := by simp [lsp, hi]
    have r : ∀ t, t < 11 → W.cell? ⟨g, i * 11 + t, none⟩ = (pcl (F i))[t]? := fun t ht => (h.cellAt (i * 11 + t) (by omega)).trans (flat_at _ i t _ he ht)
    exact ⟨r 0 (by omega), r 1 (by omega), r 2 (by omega), r 3 (by omega), r 4 (by omega), r 5 (by omega), r 6 (by omega), r 7 (by omega), r 8 (by omega), r 9 (by omega), r 10 (by omega)⟩
/-- the first place whose Turn is above tt -/
def Bh (n : Nat) (F : Nat → Pv) (tt : Int) (r : Nat) : Prop := r ≤ n ∧ (∀ i, i < r → (F i).t ≤ tt) ∧ (∀ i, r ≤ i → i < n → tt < (F i).t)
theorem Bh.uniq {n : Nat} {F : Nat → Pv} {tt : Int} {r q : Nat} (h : Bh n F tt r) (g : Bh n F tt q) : r = q := by
  rcases Nat.lt_trichotomy r q with e | e | e
  · have h1 := h.2.2 r (Nat.le_refl _) (by have := g.1; omega)
    have h2 := g.2.1 r e
    omega
  · exact e
  · have h1 := g.2.2 q (Nat.le_refl _) (by have := h.1; omega)
    have h2 := h.2.1 q e
    omega
theorem tok_asc {n : Nat} {F : Nat → Pv} {T : Int} (h : tok n F T) : ∀ a b, a ≤ b → b < n → (F a).t ≤ (F b).t := by
  intro a b hab hb
  induction b with
  | zero => obtain rfl : a = 0 := by omega
            exact Int.le_refl _
  | succ b ih =>
    by_cases e : a = b + 1
    · subst e; exact Int.le_refl _
    · have h1 := ih (by omega) (by omega)
      have h2 : lst F (b + 1) < (F (b + 1)).t := (h.2.2.2 (b + 1) hb).2.2.2.1
      have h3 : lst F (b + 1) = (F b).t := rfl
      omega
set_option maxHeartbeats 4000000 in
theorem im_above {B X n ca g i : Nat} {tt t : Int} (W : World) (hX : W.cell? ⟨X, 0, none⟩ = some (.pointer (some ⟨B, 0, none⟩))) (hT : W.cell? ⟨X + 1, 0, none⟩ = some (.int .i64 tt)) (hB : W.cell? ⟨B, 0, none⟩ = some (.slice (some ⟨g, 0, none⟩) n ca)) (hc : W.cell? ⟨g, i * 11 + 10, none⟩ = some (.int .i64 t)) (hi : i < n) (hn : n ≤ 500) :
    Calls Try.prog 83 #[.int .i64 (i : Int), .pointer (some ⟨X, 0, none⟩), .pointer (some ⟨X + 1, 0, none⟩)] W fun e w' => e = .returned (.bool (decide (tt < t))) ∧ Kq W w' := by
  have hiI : (i : Int) < (n : Int) := by omega
  have hnI : (n : Int) ≤ 500 := by omega
  clear hn
  go_enter Try.func83, Try.ntmps83
  go_wp2_with fail
  go_quiet (fail)
  go_wp2_with fail
  go_ret
  exact ⟨rfl, Kq.drewN (Kq.refl _) _⟩
set_option maxHeartbeats 8000000 in
theorem im_search {n : Nat} {F : Nat → Pv} {tt : Int} (cb : Array Value) (W : World) (hn : n ≤ 500) (hasc : ∀ a b, a ≤ b → b < n → (F a).t ≤ (F b).t)
    (hf : ∀ W' (i : Nat), Kq W W' → i < n → Calls Try.prog 83 (#[.int .i64 (i : Int)] ++ cb) W' fun e w' => e = .returned (.bool (decide (tt < (F i).t))) ∧ Kq W' w') :
    Calls Try.prog 82 #[.int .i64 (n : Int), .func (.func 83) #[] cb] W fun e w' => ∃ r : Nat, e = .returned (.int .i64 (r : Int)) ∧ Bh n F tt r ∧ Kq W w' := by
  have hnI : (n : Int) ≤ 500 := by omega
  have HF : Hid (∀ W' (i : Nat), Kq W W' → i < n → Calls Try.prog 83 (#[.int .i64 (i : Int)] ++ cb) W' fun e w' => e = .returned (.bool (decide (tt < (F i).t))) ∧ Kq W' w') := hf
  have HM : Hid (∀ a b, a ≤ b → b < n → (F a).t ≤ (F b).t) := hasc
  have eg : ∀ args w, (callFunc 83 args).run Try.prog w = .ok (.enter 83 args) w := fun args w => by
    first | exact run_callFunc_enter Try.func83 _ _ | kernel_rfl
  clear hf hasc hn
  go_enter Try.func82, Try.ntmps82
  go_wp2_with fail
  go_loopw [5, 6] (fun s5 s6 wr => ∃ lo hi : Nat, s5 = .int .i64 (lo : Int) ∧ s6 = .int .i64 (hi : Int) ∧ lo ≤ hi ∧ hi ≤ n ∧ Hid (Kq W wr ∧ (∀ t, t < lo → (F t).t ≤ tt) ∧ (∀ t, hi ≤ t → t < n → tt < (F t).t))) (fun s5 s6 _ => (intOf s6).toNat - (intOf s5).toNat)
  case atStart => exact ⟨0, n, rfl, rfl, Nat.zero_le _, Nat.le_refl _, (⟨Kq.refl _, fun t ht => by omega, fun t h1 h2 => by omega⟩ : _ ∧ _ ∧ _)⟩
  case round =>
    obtain ⟨lo, hi, rfl, rfl, hlh, hin, HX⟩ := hrel
    have hX := (show Kq W wr ∧ (∀ t, t < lo → (F t).t ≤ tt) ∧ (∀ t, hi ≤ t → t < n → tt < (F t).t) from HX)
    by_cases hlt : lo < hi
    · have hc := (show ∀ W' (i : Nat), Kq W W' → i < n → _ from HF) wr ((lo + hi) / 2) hX.1 (by omega)
      have hcast : (((lo + hi) / 2 : Nat) : Int) = ((lo : Int) + (hi : Int)) / 2 := by omega
      rw [hcast] at hc
      have hltI : (lo : Int) < (hi : Int) := by omega
      have hhi : (hi : Int) ≤ 500 := by omega
      by_cases hp : tt < (F ((lo + hi) / 2)).t
      · have hd : decide (tt < (F ((lo + hi) / 2)).t) = true := by simpa using hp
        rw [hd] at hc
        have HN : Hid (∀ w', Kq wr w' → Kq W w' ∧ (∀ t, t < lo → (F t).t ≤ tt) ∧ (∀ t, (lo + hi) / 2 ≤ t → t < n → tt < (F t).t)) := (fun w' q => ⟨hX.1.trans q, hX.2.1, fun t h1 h2 => by have := (show ∀ a b, a ≤ b → b < n → (F a).t ≤ (F b).t from HM) _ t h1 h2; omega⟩ : ∀ w', Kq wr w' → _)
        clear hX HX HF HM hp hd
        go_wp2_with (go_at_call 83; refine hc.mono ?_; rintro e w' ⟨rfl, k1⟩)
        go_roundw
        case rel => first | exact ⟨lo, (lo + hi) / 2, rfl, by rw [hcast], by omega, by omega, (show ∀ w', Kq wr w' → _ from HN) _ k1⟩ | ((repeat apply Exists.intro); exact ⟨⟨lo, (lo + hi) / 2, rfl, by rw [hcast], by omega, by omega, (show ∀ w', Kq wr w' → _ from HN) _ k1⟩, rfl⟩)
        case measure => simp [intOf]; omega
      · have hd : decide (tt < (F ((lo + hi) / 2)).t) = false := by simpa using hp
        rw [hd] at hc
        have HN : Hid (∀ w', Kq wr w' → Kq W w' ∧ (∀ t, t < (lo + hi) / 2 + 1 → (F t).t ≤ tt) ∧ (∀ t, hi ≤ t → t < n → tt < (F t).t)) := (fun w' q => ⟨hX.1.trans q, fun t h1 => by have := (show ∀ a b, a ≤ b → b < n → (F a).t ≤ (F b).t from HM) t ((lo + hi) / 2) (by omega) (by omega); omega, hX.2.2⟩ : ∀ w', Kq wr w' → _)
        have hcast2 : (((lo + hi) / 2 + 1 : Nat) : Int) = ((lo : Int) + (hi : Int)) / 2 + 1 := by omega
        clear hX HX HF HM hp hd
        go_wp2_with (go_at_call 83; refine hc.mono ?_; rintro e w' ⟨rfl, k1⟩)
        go_roundw
        case rel => first | exact ⟨(lo + hi) / 2 + 1, hi, by rw [hcast2], rfl, by omega, by omega, (show ∀ w', Kq wr w' → _ from HN) _ k1⟩ | ((repeat apply Exists.intro); exact ⟨⟨(lo + hi) / 2 + 1, hi, by rw [hcast2], rfl, by omega, by omega, (show ∀ w', Kq wr w' → _ from HN) _ k1⟩, rfl⟩)
        case measure => simp [intOf]; omega
    · obtain rfl : hi = lo := by omega
      have HE : Hid (Bh n F tt hi ∧ Kq W wr) := (⟨⟨hin, hX.2.1, hX.2.2⟩, hX.1⟩ : _ ∧ _)
      clear hX HX HF HM
      go_wp2_with fail
      go_ret
      exact ⟨hi, rfl, (show Bh n F tt hi ∧ Kq W wr from HE).1, (show Bh n F tt hi ∧ Kq W wr from HE).2⟩
end Go.Proofs.Ytfpidccjcemcjaa
