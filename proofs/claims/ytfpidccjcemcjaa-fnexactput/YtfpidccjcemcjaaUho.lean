import Derived.Test.YtfpidccjcemcjaaUea
import Derived.Test.YtfpidccjcemcjaaUcd
import Derived.Deep.RegionHeldLaw
namespace Go.Proofs.Ytfpidccjcemcjaa
open Go.ChangeShapes Go.WideShapes Go.ChangeAt Go.RowKit
set_option linter.unusedVariables false
set_option maxRecDepth 100000

theorem flat_at : ∀ (P : List Pv) (i t : Nat) (p : Pv), P[i]? = some p → t < 11 → (P.flatMap pcl)[i * 11 + t]? = (pcl p)[t]?
  | [], i, t, p, h, _ => by simp at h
  | q :: P, 0, t, p, h, ht => by
    have : q = p := by simpa using h
    subst this
    rw [List.flatMap_cons, List.getElem?_append_left (by show 0 * 11 + t < 11; omega)]
    rw [Nat.zero_mul, Nat.zero_add]
  | q :: P, i + 1, t, p, h, ht => by
    have h' : P[i]? = some p := by simpa using h
    rw [List.flatMap_cons, List.getElem?_append_right (by show 11 ≤ (i + 1) * 11 + t; omega)]
    have e : (i + 1) * 11 + t - (pcl q).length = i * 11 + t := by show (i + 1) * 11 + t - 11 = _; omega
    rw [e]
    exact flat_at P i t p h' ht
theorem own_pairs {W : World} {base : Nat} {v : Value} {n : Nat} {F : Nat → Pv} (h : W.ownsRow base 51 11 v (lsp F n).length ((lsp F n).flatMap pcl)) : ∃ g, OwnP W v g n F ∧ (0 < n → base ≤ g ∧ g < W.heap.size) := by
  rw [lsp_len] at h
  rcases Nat.eq_zero_or_pos n with h0 | h0
  · refine ⟨0, ⟨?_, fun i hi => by omega, fun hn => by omega⟩, fun hn => by omega⟩
    rcases h.2 with ⟨e1, e2⟩ | ⟨g, cap, cur, e1, _⟩
    · exact ⟨none, 0, by rw [e1, h0], fun hn => by omega⟩
    · exact ⟨_, cap, e1, fun hn => by omega⟩
  · obtain ⟨g, cap, rfl, hcap, _⟩ := h.form h0
    have hc : n ≤ cap := by
      rcases h.2 with ⟨e1, e2⟩ | ⟨g', cap', cur, e1, _, _, e4, _⟩
      · omega
      · simp only [Value.slice.injEq] at e1
        obtain ⟨_, _, rfl⟩ := e1
        exact e4
    refine ⟨g, ⟨⟨_, cap, rfl, fun _ => ⟨rfl, hc⟩⟩, fun i hi => ?_, fun _ j => h.frozenAt j⟩, fun _ => h.lt g rfl⟩
    have he : (lsp F n)[i]? = some (F i) := by simp [lsp, hi]
    have r : ∀ t, t < 11 → W.cell? ⟨g, i * 11 + t, none⟩ = (pcl (F i))[t]? := fun t ht => (h.cellAt (i * 11 + t) (by omega)).trans (flat_at _ i t _ he ht)
    exact ⟨r 0 (by omega), r 1 (by omega), r 2 (by omega), r 3 (by omega), r 4 (by omega), r 5 (by omega), r 6 (by omega), r 7 (by omega), r 8 (by omega), r 9 (by omega), r 10 (by omega)⟩
/-- the first place whose Turn is above tt -/
def Bh (n : Nat) (F : Nat → Pv) (tt : Int) (r : Nat) : Prop := r ≤ n ∧ (∀ i, i < r → (F i).t ≤ tt) ∧ (∀ i, r ≤ i → i < n → tt < (F i).t)
theorem Bh.uniq {n : Nat} {F : Nat → Pv} {tt : Int} {r q : Nat} (h : Bh n F tt r) (g : Bh n F tt q) : r = q := by
  rcases Nat.lt_trichotomy r q with e | e | e
  · have h1 := h.2.2 r (Nat.le_refl _) (by have := g.1; omega)
    have h2 := g.2.1 r e
    omega
  · exact e
  · have h1 := g.2.2 q (Nat.le_refl _) (by have := h.1; omega)
    have h2 := h.2.1 q e
    omega
theorem tok_asc {n : Nat} {F : Nat → Pv} {T : Int} (h : tok n F T) : ∀ a b, a ≤ b → b < n → (F a).t ≤ (F b).t := by
  intro a b hab hb
  induction b with
  | zero => obtain rfl : a = 0 := by omega
            exact Int.le_refl _
  | succ b ih =>
    by_cases e : a = b + 1
    · subst e; exact Int.le_refl _
    · have h1 := ih (by omega) (by omega)
      have h2 : lst F (b + 1) < (F (b + 1)).t := (h.2.2.2 (b + 1) hb).2.2.2.1
      have h3 : lst F (b + 1) = (F b).t := rfl
      omega
set_option maxHeartbeats 4000000 in
theorem im_above {B X n ca g i : Nat} {tt t : Int} (W : World) (hX : W.cell? ⟨X, 0, none⟩ = some (.pointer (some ⟨B, 0, none⟩))) (hT : W.cell? ⟨X + 1, 0, none⟩ = some (.int .i64 tt)) (hB : W.cell? ⟨B, 0, none⟩ = some (.slice (some ⟨g, 0, none⟩) n ca)) (hc : W.cell? ⟨g, i * 11 + 10, none⟩ = some (.int .i64 t)) (hi : i < n) (hn : n ≤ 500) :
    Calls Try.prog 83 #[.int .i64 (i : Int), .pointer (some ⟨X, 0, none⟩), .pointer (some ⟨X + 1, 0, none⟩)] W fun e w' => e = .returned (.bool (decide (tt < t))) ∧ Kq W w' := by
  have hiI : (i : Int) < (n : Int) := by omega
  have hnI : (n : Int) ≤ 500 := by omega
  clear hn
  go_enter Try.func83, Try.ntmps83
  go_wp2_with fail
  go_quiet (fail)
  go_wp2_with fail
  go_ret
  exact ⟨rfl, Kq.drewN (Kq.refl _) _⟩
set_option maxHeartbeats 8000000 in
theorem im_search {n : Nat} {F : Nat → Pv} {tt : Int} (cb : Array Value) (W : World) (hn : n ≤ 500) (hasc : ∀ a b, a ≤ b → b < n → (F a).t ≤ (F b).t)
    (hf : ∀ W' (i : Nat), Kq W W' → i < n → Calls Try.prog 83 (#[.int .i64 (i : Int)] ++ cb) W' fun e w' => e = .returned (.bool (decide (tt < (F i).t))) ∧ Kq W' w') :
    Calls Try.prog 82 #[.int .i64 (n : Int), .func (.func 83) #[] cb] W fun e w' => ∃ r : Nat, e = .returned (.int .i64 (r : Int)) ∧ Bh n F tt r ∧ Kq W w' := by
  have hnI : (n : Int) ≤ 500 := by omega
  have HF : Hid (∀ W' (i : Nat), Kq W W' → i < n → Calls Try.prog 83 (#[.int .i64 (i : Int)] ++ cb) W' fun e w' => e = .returned (.bool (decide (tt < (F i).t))) ∧ Kq W' w') := hf
  have HM : Hid (∀ a b, a ≤ b → b < n → (F a).t ≤ (F b).t) := hasc
  have eg : ∀ args w, (callFunc 83 args).run Try.prog w = .ok (.enter 83 args) w := fun args w => by
    first | exact run_callFunc_enter Try.func83 _ _ | kernel_rfl
  clear hf hasc hn
  go_enter Try.func82, Try.ntmps82
  go_wp2_with fail
  go_loopw [5, 6] (fun s5 s6 wr => ∃ lo hi : Nat, s5 = .int .i64 (lo : Int) ∧ s6 = .int .i64 (hi : Int) ∧ lo ≤ hi ∧ hi ≤ n ∧ Hid (Kq W wr ∧ (∀ t, t < lo → (F t).t ≤ tt) ∧ (∀ t, hi ≤ t → t < n → tt < (F t).t))) (fun s5 s6 _ => (intOf s6).toNat - (intOf s5).toNat)
  case atStart => exact ⟨0, n, rfl, rfl, Nat.zero_le _, Nat.le_refl _, (⟨Kq.refl _, fun t ht => by omega, fun t h1 h2 => by omega⟩ : _ ∧ _ ∧ _)⟩
  case round =>
    obtain ⟨lo, hi, rfl, rfl, hlh, hin, HX⟩ := hrel
    have hX := (show Kq W wr ∧ (∀ t, t < lo → (F t).t ≤ tt) ∧ (∀ t, hi ≤ t → t < n → tt < (F t).t) from HX)
    by_cases hlt : lo < hi
    · have hc := (show ∀ W' (i : Nat), Kq W W' → i < n → _ from HF) wr ((lo + hi) / 2) hX.1 (by omega)
      have hcast : (((lo + hi) / 2 : Nat) : Int) = ((lo : Int) + (hi : Int)) / 2 := by omega
      rw [hcast] at hc
      have hltI : (lo : Int) < (hi : Int) := by omega
      have hhi : (hi : Int) ≤ 500 := by omega
      by_cases hp : tt < (F ((lo + hi) / 2)).t
      · have hd : decide (tt < (F ((lo + hi) / 2)).t) = true := by simpa using hp
        rw [hd] at hc
        have HN : Hid (∀ w', Kq wr w' → Kq W w' ∧ (∀ t, t < lo → (F t).t ≤ tt) ∧ (∀ t, (lo + hi) / 2 ≤ t → t < n → tt < (F t).t)) := (fun w' q => ⟨hX.1.trans q, hX.2.1, fun t h1 h2 => by have := (show ∀ a b, a ≤ b → b < n → (F a).t ≤ (F b).t from HM) _ t h1 h2; omega⟩ : ∀ w', Kq wr w' → _)
        clear hX HX HF HM hp hd
        go_wp2_with (go_at_call 83; refine hc.mono ?_; rintro e w' ⟨rfl, k1⟩)
        go_roundw
        case rel => first | exact ⟨lo, (lo + hi) / 2, rfl, by rw [hcast], by omega, by omega, (show ∀ w', Kq wr w' → _ from HN) _ k1⟩ | ((repeat apply Exists.intro); exact ⟨⟨lo, (lo + hi) / 2, rfl, by rw [hcast], by omega, by omega, (show ∀ w', Kq wr w' → _ from HN) _ k1⟩, rfl⟩)
        case measure => simp [intOf]; omega
      · have hd : decide (tt < (F ((lo + hi) / 2)).t) = false := by simpa using hp
        rw [hd] at hc
        have HN : Hid (∀ w', Kq wr w' → Kq W w' ∧ (∀ t, t < (lo + hi) / 2 + 1 → (F t).t ≤ tt) ∧ (∀ t, hi ≤ t → t < n → tt < (F t).t)) := (fun w' q => ⟨hX.1.trans q, fun t h1 => by have := (show ∀ a b, a ≤ b → b < n → (F a).t ≤ (F b).t from HM) t ((lo + hi) / 2) (by omega) (by omega); omega, hX.2.2⟩ : ∀ w', Kq wr w' → _)
        have hcast2 : (((lo + hi) / 2 + 1 : Nat) : Int) = ((lo : Int) + (hi : Int)) / 2 + 1 := by omega
        clear hX HX HF HM hp hd
        go_wp2_with (go_at_call 83; refine hc.mono ?_; rintro e w' ⟨rfl, k1⟩)
        go_roundw
        case rel => first | exact ⟨(lo + hi) / 2 + 1, hi, by rw [hcast2], rfl, by omega, by omega, (show ∀ w', Kq wr w' → _ from HN) _ k1⟩ | ((repeat apply Exists.intro); exact ⟨⟨(lo + hi) / 2 + 1, hi, by rw [hcast2], rfl, by omega, by omega, (show ∀ w', Kq wr w' → _ from HN) _ k1⟩, rfl⟩)
        case measure => simp [intOf]; omega
    · obtain rfl : hi = lo := by omega
      have HE : Hid (Bh n F tt hi ∧ Kq W wr) := (⟨⟨hin, hX.2.1, hX.2.2⟩, hX.1⟩ : _ ∧ _)
      clear hX HX HF HM
      go_wp2_with fail
      go_ret
      exact ⟨hi, rfl, (show Bh n F tt hi ∧ Kq W wr from HE).1, (show Bh n F tt hi ∧ Kq W wr from HE).2⟩
end Go.Proofs.Ytfpidccjcemcjaa
namespace Go.Proofs.Ytfpidccjcemcjaa
open Go.ChangeShapes Go.WideShapes Go.ChangeAt Go.RowKit
set_option linter.unusedVariables false
set_option maxRecDepth 100000

/-- a pair that may be found, as a value -/
def fov (b : Bool) (p : Pv) : Value := .agg #[.bool b, .int .i64 p.a.k, .int .i64 p.a.m, .float .f64 p.a.g, .string p.a.x, .int .i64 p.a.r, .int .i64 p.b.k, .int .i64 p.b.m, .float .f64 p.b.g, .string p.b.x, .int .i64 p.b.r, .int .i64 p.t]
/-- the cells of an answer that is not yet written -/
structure Rf (W : World) (Z : Nat) : Prop where
  c0 : W.cell? ⟨Z, 0, none⟩ = some (.bool false)
  c1 : W.cell? ⟨Z, 1, none⟩ = some (.int .i64 0)
  c2 : W.cell? ⟨Z, 2, none⟩ = some (.int .i64 0)
  c3 : W.cell? ⟨Z, 3, none⟩ = some (.float .f64 0)
  c4 : W.cell? ⟨Z, 4, none⟩ = some (.string ⟨#[]⟩)
  c5 : W.cell? ⟨Z, 5, none⟩ = some (.int .i64 0)
  c6 : W.cell? ⟨Z, 6, none⟩ = some (.int .i64 0)
  c7 : W.cell? ⟨Z, 7, none⟩ = some (.int .i64 0)
  c8 : W.cell? ⟨Z, 8, none⟩ = some (.float .f64 0)
  c9 : W.cell? ⟨Z, 9, none⟩ = some (.string ⟨#[]⟩)
  c10 : W.cell? ⟨Z, 10, none⟩ = some (.int .i64 0)
  c11 : W.cell? ⟨Z, 11, none⟩ = some (.int .i64 0)
  fz : ∀ j, W.frozen? ⟨Z, j, none⟩ = false
/-- the cells of an answer -/
structure Fc (W : World) (Z : Nat) (b : Bool) (p : Pv) : Prop where
  c0 : W.cell? ⟨Z, 0, none⟩ = some (.bool b)
  c1 : W.cell? ⟨Z, 1, none⟩ = some (.int .i64 p.a.k)
  c2 : W.cell? ⟨Z, 2, none⟩ = some (.int .i64 p.a.m)
  c3 : W.cell? ⟨Z, 3, none⟩ = some (.float .f64 p.a.g)
  c4 : W.cell? ⟨Z, 4, none⟩ = some (.string p.a.x)
  c5 : W.cell? ⟨Z, 5, none⟩ = some (.int .i64 p.a.r)
  c6 : W.cell? ⟨Z, 6, none⟩ = some (.int .i64 p.b.k)
  c7 : W.cell? ⟨Z, 7, none⟩ = some (.int .i64 p.b.m)
  c8 : W.cell? ⟨Z, 8, none⟩ = some (.float .f64 p.b.g)
  c9 : W.cell? ⟨Z, 9, none⟩ = some (.string p.b.x)
  c10 : W.cell? ⟨Z, 10, none⟩ = some (.int .i64 p.b.r)
  c11 : W.cell? ⟨Z, 11, none⟩ = some (.int .i64 p.t)
theorem Rf.new (w : World) (t : TypeId) : Rf (w.alloc (.cells #[.bool false, .int .i64 0, .int .i64 0, .float .f64 0, .string ⟨#[]⟩, .int .i64 0, .int .i64 0, .int .i64 0, .float .f64 0, .string ⟨#[]⟩, .int .i64 0, .int .i64 0] t)) w.heap.size := by
  refine ⟨?_, ?_, ?_, ?_, ?_, ?_, ?_, ?_, ?_, ?_, ?_, ?_, fun j => World.frozen?_alloc_at _ _ _ _ rfl⟩ <;> (rw [World.cell?_alloc_at _ _ _ _ rfl]; rfl)
theorem Fc.new (w : World) (b : Bool) (p : Pv) (t : TypeId) : Fc (w.alloc (.cells #[.bool b, .int .i64 p.a.k, .int .i64 p.a.m, .float .f64 p.a.g, .string p.a.x, .int .i64 p.a.r, .int .i64 p.b.k, .int .i64 p.b.m, .float .f64 p.b.g, .string p.b.x, .int .i64 p.b.r, .int .i64 p.t] t)) w.heap.size b p := by
  constructor <;> (rw [World.cell?_alloc_at _ _ _ _ rfl]; rfl)
theorem Rf.kq {a w : World} {B : Nat} (h : Rf a B) (g : Kq a w) : Rf w B :=
  ⟨g.cell h.c0, g.cell h.c1, g.cell h.c2, g.cell h.c3, g.cell h.c4, g.cell h.c5, g.cell h.c6, g.cell h.c7, g.cell h.c8, g.cell h.c9, g.cell h.c10, g.cell h.c11, fun j => (g.frozen (lt_of_cell h.c0)).trans (h.fz j)⟩
theorem Fc.kq {a w : World} {B : Nat} {b : Bool} {p : Pv} (h : Fc a B b p) (g : Kq a w) : Fc w B b p :=
  ⟨g.cell h.c0, g.cell h.c1, g.cell h.c2, g.cell h.c3, g.cell h.c4, g.cell h.c5, g.cell h.c6, g.cell h.c7, g.cell h.c8, g.cell h.c9, g.cell h.c10, g.cell h.c11⟩
def s12 (W : World) (Z : Nat) (b : Bool) (p : Pv) : World := (((((((((((W.setCell ⟨Z, 0, none⟩ (.bool b)).setCell ⟨Z, 1, none⟩ (.int .i64 p.a.k)).setCell ⟨Z, 2, none⟩ (.int .i64 p.a.m)).setCell ⟨Z, 3, none⟩ (.float .f64 p.a.g)).setCell ⟨Z, 4, none⟩ (.string p.a.x)).setCell ⟨Z, 5, none⟩ (.int .i64 p.a.r)).setCell ⟨Z, 6, none⟩ (.int .i64 p.b.k)).setCell ⟨Z, 7, none⟩ (.int .i64 p.b.m)).setCell ⟨Z, 8, none⟩ (.float .f64 p.b.g)).setCell ⟨Z, 9, none⟩ (.string p.b.x)).setCell ⟨Z, 10, none⟩ (.int .i64 p.b.r)).setCell ⟨Z, 11, none⟩ (.int .i64 p.t)
theorem s12_kq {w W : World} {Z : Nat} (h : Kq w W) (hZ : w.heap.size ≤ Z) (b : Bool) (p : Pv) : Kq w (s12 W Z b p) := by
  unfold s12
  exact kq_set (kq_set (kq_set (kq_set (kq_set (kq_set (kq_set (kq_set (kq_set (kq_set (kq_set (kq_set h hZ) hZ) hZ) hZ) hZ) hZ) hZ) hZ) hZ) hZ) hZ) hZ
theorem s12_fc {W : World} {Z : Nat} (h : Rf W Z) (b : Bool) (p : Pv) : Fc (s12 W Z b p) Z b p := by
  obtain ⟨h0, h1, h2, h3, h4, h5, h6, h7, h8, h9, h10, h11, _⟩ := h
  unfold s12
  refine ⟨?_, ?_, ?_, ?_, ?_, ?_, ?_, ?_, ?_, ?_, ?_, ?_⟩
  · rw [set_ne _ _ _ _ _ (by decide), set_ne _ _ _ _ _ (by decide), set_ne _ _ _ _ _ (by decide), set_ne _ _ _ _ _ (by decide), set_ne _ _ _ _ _ (by decide), set_ne _ _ _ _ _ (by decide), set_ne _ _ _ _ _ (by decide), set_ne _ _ _ _ _ (by decide), set_ne _ _ _ _ _ (by decide), set_ne _ _ _ _ _ (by decide), set_ne _ _ _ _ _ (by decide)]
    exact set_eq _ _ _ _ _ (by exact h0)
  · rw [set_ne _ _ _ _ _ (by decide), set_ne _ _ _ _ _ (by decide), set_ne _ _ _ _ _ (by decide), set_ne _ _ _ _ _ (by decide), set_ne _ _ _ _ _ (by decide), set_ne _ _ _ _ _ (by decide), set_ne _ _ _ _ _ (by decide), set_ne _ _ _ _ _ (by decide), set_ne _ _ _ _ _ (by decide), set_ne _ _ _ _ _ (by decide)]
    exact set_eq _ _ _ _ _ (by rw [set_ne _ _ _ _ _ (by decide)]; exact h1)
  · rw [set_ne _ _ _ _ _ (by decide), set_ne _ _ _ _ _ (by decide), set_ne _ _ _ _ _ (by decide), set_ne _ _ _ _ _ (by decide), set_ne _ _ _ _ _ (by decide), set_ne _ _ _ _ _ (by decide), set_ne _ _ _ _ _ (by decide), set_ne _ _ _ _ _ (by decide), set_ne _ _ _ _ _ (by decide)]
    exact set_eq _ _ _ _ _ (by rw [set_ne _ _ _ _ _ (by decide), set_ne _ _ _ _ _ (by decide)]; exact h2)
  · rw [set_ne _ _ _ _ _ (by decide), set_ne _ _ _ _ _ (by decide), set_ne _ _ _ _ _ (by decide), set_ne _ _ _ _ _ (by decide), set_ne _ _ _ _ _ (by decide), set_ne _ _ _ _ _ (by decide), set_ne _ _ _ _ _ (by decide), set_ne _ _ _ _ _ (by decide)]
    exact set_eq _ _ _ _ _ (by rw [set_ne _ _ _ _ _ (by decide), set_ne _ _ _ _ _ (by decide), set_ne _ _ _ _ _ (by decide)]; exact h3)
  · rw [set_ne _ _ _ _ _ (by decide), set_ne _ _ _ _ _ (by decide), set_ne _ _ _ _ _ (by decide), set_ne _ _ _ _ _ (by decide), set_ne _ _ _ _ _ (by decide), set_ne _ _ _ _ _ (by decide), set_ne _ _ _ _ _ (by decide)]
    exact set_eq _ _ _ _ _ (by rw [set_ne _ _ _ _ _ (by decide), set_ne _ _ _ _ _ (by decide), set_ne _ _ _ _ _ (by decide), set_ne _ _ _ _ _ (by decide)]; exact h4)
  · rw [set_ne _ _ _ _ _ (by decide), set_ne _ _ _ _ _ (by decide), set_ne _ _ _ _ _ (by decide), set_ne _ _ _ _ _ (by decide), set_ne _ _ _ _ _ (by decide), set_ne _ _ _ _ _ (by decide)]
    exact set_eq _ _ _ _ _ (by rw [set_ne _ _ _ _ _ (by decide), set_ne _ _ _ _ _ (by decide), set_ne _ _ _ _ _ (by decide), set_ne _ _ _ _ _ (by decide), set_ne _ _ _ _ _ (by decide)]; exact h5)
  · rw [set_ne _ _ _ _ _ (by decide), set_ne _ _ _ _ _ (by decide), set_ne _ _ _ _ _ (by decide), set_ne _ _ _ _ _ (by decide), set_ne _ _ _ _ _ (by decide)]
    exact set_eq _ _ _ _ _ (by rw [set_ne _ _ _ _ _ (by decide), set_ne _ _ _ _ _ (by decide), set_ne _ _ _ _ _ (by decide), set_ne _ _ _ _ _ (by decide), set_ne _ _ _ _ _ (by decide), set_ne _ _ _ _ _ (by decide)]; exact h6)
  · rw [set_ne _ _ _ _ _ (by decide), set_ne _ _ _ _ _ (by decide), set_ne _ _ _ _ _ (by decide), set_ne _ _ _ _ _ (by decide)]
    exact set_eq _ _ _ _ _ (by rw [set_ne _ _ _ _ _ (by decide), set_ne _ _ _ _ _ (by decide), set_ne _ _ _ _ _ (by decide), set_ne _ _ _ _ _ (by decide), set_ne _ _ _ _ _ (by decide), set_ne _ _ _ _ _ (by decide), set_ne _ _ _ _ _ (by decide)]; exact h7)
  · rw [set_ne _ _ _ _ _ (by decide), set_ne _ _ _ _ _ (by decide), set_ne _ _ _ _ _ (by decide)]
    exact set_eq _ _ _ _ _ (by rw [set_ne _ _ _ _ _ (by decide), set_ne _ _ _ _ _ (by decide), set_ne _ _ _ _ _ (by decide), set_ne _ _ _ _ _ (by decide), set_ne _ _ _ _ _ (by decide), set_ne _ _ _ _ _ (by decide), set_ne _ _ _ _ _ (by decide), set_ne _ _ _ _ _ (by decide)]; exact h8)
  · rw [set_ne _ _ _ _ _ (by decide), set_ne _ _ _ _ _ (by decide)]
    exact set_eq _ _ _ _ _ (by rw [set_ne _ _ _ _ _ (by decide), set_ne _ _ _ _ _ (by decide), set_ne _ _ _ _ _ (by decide), set_ne _ _ _ _ _ (by decide), set_ne _ _ _ _ _ (by decide), set_ne _ _ _ _ _ (by decide), set_ne _ _ _ _ _ (by decide), set_ne _ _ _ _ _ (by decide), set_ne _ _ _ _ _ (by decide)]; exact h9)
  · rw [set_ne _ _ _ _ _ (by decide)]
    exact set_eq _ _ _ _ _ (by rw [set_ne _ _ _ _ _ (by decide), set_ne _ _ _ _ _ (by decide), set_ne _ _ _ _ _ (by decide), set_ne _ _ _ _ _ (by decide), set_ne _ _ _ _ _ (by decide), set_ne _ _ _ _ _ (by decide), set_ne _ _ _ _ _ (by decide), set_ne _ _ _ _ _ (by decide), set_ne _ _ _ _ _ (by decide), set_ne _ _ _ _ _ (by decide)]; exact h10)
  · exact set_eq _ _ _ _ _ (by rw [set_ne _ _ _ _ _ (by decide), set_ne _ _ _ _ _ (by decide), set_ne _ _ _ _ _ (by decide), set_ne _ _ _ _ _ (by decide), set_ne _ _ _ _ _ (by decide), set_ne _ _ _ _ _ (by decide), set_ne _ _ _ _ _ (by decide), set_ne _ _ _ _ _ (by decide), set_ne _ _ _ _ _ (by decide), set_ne _ _ _ _ _ (by decide), set_ne _ _ _ _ _ (by decide)]; exact h11)
set_option maxHeartbeats 4000000 in
theorem im_behind {w : World} {B M n : Nat} {F : Nat → Pv} {v : Value} {T : Int} (tt : Int) (W : World) (hL : Lg w B M (lsp F n) v T W) (ht : tok n F T) : Calls Try.prog 73 #[.pointer (some ⟨B, 0, none⟩), .int .i64 tt] W fun e w' => ∃ r : Nat, e = .returned (.int .i64 (r : Int)) ∧ Bh n F tt r ∧ Kq W w' := by
  obtain ⟨g, hO, hg⟩ := own_pairs hL.row
  obtain ⟨ad, ca, rfl, hsl⟩ := hO.sl
  obtain ⟨w2, hw2⟩ : ∃ w2, w2 = (W.alloc (.cells #[.pointer (some ⟨B, 0, none⟩)] 66)).alloc (.cells #[.int .i64 tt] 3) := ⟨_, rfl⟩
  obtain ⟨x0, x1, z2, k2⟩ := two_new W _ _ _ _ w2 hw2
  have h2 := k2.cell (cell_of hL.ob (j := 0) rfl)
  have HS : Hid (Calls Try.prog 82 #[.int .i64 (n : Int), .func (.func 83) #[] #[.pointer (some ⟨W.heap.size, 0, none⟩), .pointer (some ⟨W.heap.size + 1, 0, none⟩)]] w2 fun e w' => ∃ r : Nat, e = .returned (.int .i64 (r : Int)) ∧ Bh n F tt r ∧ Kq w2 w') := by
    refine im_search (F := F) (tt := tt) _ w2 ht.1 (tok_asc ht) (fun W' i q hi => ?_)
    obtain ⟨rfl, hcap⟩ := hsl (by omega)
    exact im_above W' (q.cell (cell_of x0 rfl)) (q.cell (cell_of x1 rfl)) (q.cell h2) (((hO.ce i hi).kq k2).kq q).c10 hi ht.1
  have HK : Hid (Kq W w2) := k2
  rw [hw2] at h2
  clear x0 x1 z2 k2 hL hO hg hsl ht
  go_enter Try.func73, Try.ntmps73
  go_wp2_with fail
  rw [← hw2]
  clear h2 hw2
  refine (show Calls Try.prog 82 #[.int .i64 (n : Int), .func (.func 83) #[] #[.pointer (some ⟨W.heap.size, 0, none⟩), .pointer (some ⟨W.heap.size + 1, 0, none⟩)]] w2 _ from HS).mono ?_
  rintro e w3 ⟨r, rfl, hb, k3⟩
  have HE : Hid (Bh n F tt r ∧ Kq W w3) := (⟨hb, Kq.trans HK k3⟩ : _ ∧ _)
  clear HS HK hb k3
  go_wp2_with fail
  go_ret
  exact ⟨r, rfl, (show Bh n F tt r ∧ Kq W w3 from HE).1, (show Bh n F tt r ∧ Kq W w3 from HE).2⟩
/-- what comes behind a Turn -/
def Af (n : Nat) (F : Nat → Pv) (tt : Int) (b : Bool) (p : Pv) : Prop := ∃ r, Bh n F tt r ∧ ((r = n ∧ b = false ∧ p = pz) ∨ (r < n ∧ b = true ∧ p = F r))
def AfT (n : Nat) (F : Nat → Pv) (T tt : Int) (b : Bool) (p : Pv) : Prop := (¬ tok n F T ∧ b = false ∧ p = pz) ∨ (tok n F T ∧ Af n F tt b p)
theorem AfT.uniq {n : Nat} {F : Nat → Pv} {T tt : Int} {b c : Bool} {p q : Pv} (h : AfT n F T tt b p) (g : AfT n F T tt c q) : b = c ∧ p = q := by
  rcases h with ⟨h1, rfl, rfl⟩ | ⟨h1, r, hr, h2⟩ <;> rcases g with ⟨g1, rfl, rfl⟩ | ⟨g1, r', hr', g2⟩
  · exact ⟨rfl, rfl⟩
  · exact absurd g1 h1
  · exact absurd h1 g1
  · obtain rfl := hr.uniq hr'
    rcases h2 with ⟨e1, rfl, rfl⟩ | ⟨e1, rfl, rfl⟩ <;> rcases g2 with ⟨f1, rfl, rfl⟩ | ⟨f1, rfl, rfl⟩
    · exact ⟨rfl, rfl⟩
    · omega
    · omega
    · exact ⟨rfl, rfl⟩
theorem AfT.glt {n : Nat} {F : Nat → Pv} {T tt : Int} {b : Bool} {p : Pv} (h : AfT n F T tt b p) (tb : Tb n F) : p.a.g < 18446744073709551616 ∧ p.b.g < 18446744073709551616 := by
  rcases h with ⟨h1, rfl, rfl⟩ | ⟨h1, r, hr, ⟨e1, rfl, rfl⟩ | ⟨e1, rfl, rfl⟩⟩
  · exact ⟨by show (0 : Nat) < _; omega, by show (0 : Nat) < _; omega⟩
  · exact ⟨by show (0 : Nat) < _; omega, by show (0 : Nat) < _; omega⟩
  · exact ⟨(tb.a r e1).g, (tb.b r e1).g⟩
set_option maxHeartbeats 8000000 in
theorem im_after0 {w : World} {B M n : Nat} {F : Nat → Pv} {v : Value} {T : Int} (tt : Int) (W : World) (hL : Lg w B M (lsp F n) v T W) (ht : tok n F T) : Calls Try.prog 54 #[.pointer (some ⟨B, 0, none⟩), .int .i64 tt] W fun e w' => ∃ b p, e = .returned (fov b p) ∧ Af n F tt b p ∧ Kq W w' := by
  obtain ⟨w1, hw1⟩ : ∃ w1, w1 = W.alloc (.cells #[.bool false, .int .i64 0, .int .i64 0, .float .f64 0, .string ⟨#[]⟩, .int .i64 0, .int .i64 0, .int .i64 0, .float .f64 0, .string ⟨#[]⟩, .int .i64 0, .int .i64 0] 53) := ⟨_, rfl⟩
  have k1 : Kq W w1 := by rw [hw1]; exact kq_alloc _ _ _
  have rf1 : Rf w1 W.heap.size := by rw [hw1]; exact Rf.new _ _
  have hL1 := hL.on k1
  have HB : Hid (Calls Try.prog 73 #[.pointer (some ⟨B, 0, none⟩), .int .i64 tt] w1 fun e w' => ∃ r : Nat, e = .returned (.int .i64 (r : Int)) ∧ Bh n F tt r ∧ Kq w1 w') := im_behind tt w1 hL1 ht
  obtain ⟨g, hO, hg⟩ := own_pairs hL1.row
  have hnI : (n : Int) ≤ 500 := by have := ht.1; omega
  obtain ⟨ad, ca, rfl, hsl⟩ := hO.sl
  have HX : Hid (Kq W w1 ∧ Rf w1 W.heap.size ∧ (0 < n → ad = some ⟨g, 0, none⟩ ∧ n ≤ ca) ∧ (∀ i, i < n → Cp w1 ⟨g, i * 11, none⟩ (F i)) ∧ w1.cell? ⟨B, 0, none⟩ = some (.slice ad n ca)) := (⟨k1, rf1, hsl, hO.ce, cell_of hL1.ob rfl⟩ : _ ∧ _ ∧ _ ∧ _ ∧ _)
  clear k1 rf1 hL hL1 hO hg hsl ht
  have hst : ∀ (a : Addr) (n : Nat) (m : Mode) (w : World), (store a (.float .f64 n) m).run Try.prog w = stored Try.prog w a (.float .f64 n) m := fun a n m w => run_store _ _ _ _ _ rfl
  unfold fov
  go_enter Try.func54, Try.ntmps54
  go_wp2_with fail
  rw [← hw1]
  clear hw1
  refine (show Calls Try.prog 73 #[.pointer (some ⟨B, 0, none⟩), .int .i64 tt] w1 _ from HB).mono ?_
  rintro e w2 ⟨q, rfl, hb, k2⟩
  have hX := (show Kq W w1 ∧ Rf w1 W.heap.size ∧ (0 < n → ad = some ⟨g, 0, none⟩ ∧ n ≤ ca) ∧ (∀ i, i < n → Cp w1 ⟨g, i * 11, none⟩ (F i)) ∧ w1.cell? ⟨B, 0, none⟩ = some (.slice ad n ca) from HX)
  have b0 := k2.cell hX.2.2.2.2
  have GK : Hid (Kq W w2) := hX.1.trans k2
  have RF : Hid (Rf w2 W.heap.size) := hX.2.1.kq k2
  have hqn := hb.1
  clear HB
  obtain ⟨u0, u1, u2, u3, u4, u5, u6, u7, u8, u9, u10, u11, uz⟩ := (show Rf w2 W.heap.size from RF)
  by_cases hq : q = n
  · subst hq
    have HE : Hid (Af q F tt false pz) := (⟨q, hb, .inl ⟨rfl, rfl, rfl⟩⟩ : Af q F tt false pz)
    have hqq : ((q : Int) == (q : Int)) = true := by simp
    clear hX HX k2 hb
    go_wp2_with fail
    obtain ⟨e0, e1, e2, e3, e4, e5, e6, e7, e8, e9, e10, e11⟩ := s12_fc (show Rf w2 W.heap.size from RF) false pz
    have GG : Hid (Kq W (s12 w2 W.heap.size false pz)) := s12_kq GK (by omega) false pz
    obtain ⟨WF, hWF⟩ : ∃ WF, WF = s12 w2 W.heap.size false pz := ⟨_, rfl⟩
    rw [← hWF] at e0 e1 e2 e3 e4 e5 e6 e7 e8 e9 e10 e11 GG
    have hWF' := hWF
    unfold s12 at hWF'
    try dsimp only [pz] at hWF' e0 e1 e2 e3 e4 e5 e6 e7 e8 e9 e10 e11
    rw [← hWF']
    clear hWF hWF'
    refine bodyPost_ret (by simp [results, Try.results54, go_sem, e0, e1, e2, e3, e4, e5, e6, e7, e8, e9, e10, e11]; rfl) rfl ?_
    exact ⟨false, pz, rfl, HE, GG⟩
  · have hql : q < n := by omega
    obtain ⟨rfl, hca⟩ := hX.2.2.1 (by omega)
    have HE : Hid (Af n F tt true (F q)) := (⟨q, hb, .inr ⟨hql, rfl, rfl⟩⟩ : Af n F tt true (F q))
    obtain ⟨d0, d1, d2, d3, d4, d5, d6, d7, d8, d9, d10⟩ := (hX.2.2.2.1 q hql).kq k2
    have hqq : ((q : Int) == (n : Int)) = false := by simp; omega
    have hqI : (q : Int) < (n : Int) := by omega
    clear hX HX k2 hb
    generalize F q = p at *
    obtain ⟨⟨k, m, gg, x, r⟩, ⟨k2, m2, g2, x2, r2⟩, t⟩ := p
    dsimp only at d0 d1 d2 d3 d4 d5 d6 d7 d8 d9 d10
    go_wp2_with fail
    clear d0 d1 d2 d3 d4 d5 d6 d7 d8 d9 d10 u0 u1 u2 u3 u4 u5 u6 u7 u8 u9 u10 u11 uz b0
    obtain ⟨e0, e1, e2, e3, e4, e5, e6, e7, e8, e9, e10, e11⟩ := s12_fc (show Rf w2 W.heap.size from RF) true ⟨⟨k, m, gg, x, r⟩, ⟨k2, m2, g2, x2, r2⟩, t⟩
    have GG : Hid (Kq W (s12 w2 W.heap.size true ⟨⟨k, m, gg, x, r⟩, ⟨k2, m2, g2, x2, r2⟩, t⟩)) := s12_kq GK (by omega) true ⟨⟨k, m, gg, x, r⟩, ⟨k2, m2, g2, x2, r2⟩, t⟩
    obtain ⟨WF, hWF⟩ : ∃ WF, WF = s12 w2 W.heap.size true ⟨⟨k, m, gg, x, r⟩, ⟨k2, m2, g2, x2, r2⟩, t⟩ := ⟨_, rfl⟩
    rw [← hWF] at e0 e1 e2 e3 e4 e5 e6 e7 e8 e9 e10 e11 GG
    have hWF' := hWF
    unfold s12 at hWF'
    try dsimp only [pz] at hWF' e0 e1 e2 e3 e4 e5 e6 e7 e8 e9 e10 e11
    rw [← hWF']
    clear hWF hWF'
    refine bodyPost_ret (by simp [results, Try.results54, go_sem, e0, e1, e2, e3, e4, e5, e6, e7, e8, e9, e10, e11]; rfl) rfl ?_
    exact ⟨true, ⟨⟨k, m, gg, x, r⟩, ⟨k2, m2, g2, x2, r2⟩, t⟩, rfl, HE, GG⟩
end Go.Proofs.Ytfpidccjcemcjaa
namespace Go.Proofs.Ytfpidccjcemcjaa
open Go.ChangeShapes Go.WideShapes Go.ChangeAt Go.RowKit
set_option linter.unusedVariables false
set_option maxRecDepth 100000

/-- where a key stands -/
def At (n : Nat) (F : Nat → Pv) (v : Vv) (r : Int) : Prop := (r = -1 ∧ ∀ j, j < n → ¬ mk (F j).a = mk v) ∨ ∃ j : Nat, j < n ∧ r = (j : Int) ∧ mk (F j).a = mk v
set_option maxHeartbeats 8000000 in
theorem sp_at {v : Value} {g n : Nat} {F : Nat → Pv} (T : Int) (u : Vv) (w : World) (ha : OwnP w v g n F) (tb : Tb n F) (hks : ∀ i, i < n → kok (F i).a) (hu : kok u) (ub : Vb u) (hxu : (u.x.size : Int) ≤ 1048576) : Calls Try.prog 68 #[.agg #[v, .int .i64 T], vv u] w fun e w' => ∃ r : Int, e = .returned (.int .i64 r) ∧ At n F u r ∧ Kq w w' := by
  obtain ⟨pa, ca, rfl, ha2⟩ := ha.sl
  have hnI : (n : Int) ≤ 1048576 := by have := tb.len; omega
  have HA : Hid ((0 < n → pa = some ⟨g, 0, none⟩ ∧ n ≤ ca) ∧ (∀ i, i < n → Cp w ⟨g, i * 11, none⟩ (F i))) := (⟨ha2, ha.ce⟩ : _ ∧ _)
  have HSM : Hid (∀ j, j < n → ∀ w, Calls Try.prog 41 #[vv (F j).a, vv u] w fun e w' => e = .returned (.bool (dc (mk (F j).a = mk u))) ∧ Grown w w') := (fun j hj w => sp_same _ _ (hks j hj) hu (tb.a j hj) ub (tb.xa j hj) hxu w : ∀ j, j < n → ∀ w, _)
  have HAT : Hid (∀ r, At n F u r ↔ ((r = -1 ∧ ∀ j, j < n → ¬ mk (F j).a = mk u) ∨ ∃ j : Nat, j < n ∧ r = (j : Int) ∧ mk (F j).a = mk u)) := (fun r => Iff.rfl : ∀ r, _)
  generalize mk u = mu at HSM HAT
  generalize At n F u = Au at HAT ⊢
  clear tb hks hu ub hxu ha ha2
  obtain ⟨k, m, gg, x, r⟩ := u
  unfold vv at HSM ⊢
  dsimp only at HSM ⊢
  obtain ⟨w2, hw2⟩ : ∃ w2, w2 = (w.alloc (.cells #[.slice pa n ca, .int .i64 T] 40)).alloc (.cells #[.int .i64 k, .int .i64 m, .float .f64 gg, .string x, .int .i64 r] 26) := ⟨_, rfl⟩
  obtain ⟨x0, x1, z2, k2⟩ := two_new w _ _ _ _ w2 hw2
  have HW2 : Hid (Kq w w2 ∧ w2.heap[w.heap.size]? = some (.cells #[.slice pa n ca, .int .i64 T] 40 (0, 0)) ∧ w2.heap[w.heap.size + 1]? = some (.cells #[.int .i64 k, .int .i64 m, .float .f64 gg, .string x, .int .i64 r] 26 (0, 0)) ∧ w2.heap.size = w.heap.size + 2) := (⟨k2, x0, x1, z2⟩ : _ ∧ _ ∧ _ ∧ _)
  clear x0 x1 z2 k2
  have hst : ∀ (a : Addr) (n : Nat) (m : Mode) (w : World), (store a (.float .f64 n) m).run Try.prog w = stored Try.prog w a (.float .f64 n) m := fun a n m w => run_store _ _ _ _ _ rfl
  go_enter Try.func68, Try.ntmps68
  go_wp2_with fail
  rw [← hw2]
  clear hw2
  go_loopw [9] (fun s9 wr => ∃ j : Nat, s9 = .int .i64 (j : Int) ∧ j ≤ n ∧ Hid (Kq w2 wr ∧ ∀ j', j' < j → ¬ mk (F j').a = mu)) (fun s9 _ => n - (intOf s9).toNat)
  case atStart => exact ⟨0, rfl, Nat.zero_le _, (⟨Kq.refl _, fun j hj => by omega⟩ : _ ∧ _)⟩
  case round =>
    obtain ⟨j, rfl, hji, HY⟩ := hrel
    rcases Nat.lt_or_ge j n with hj | hj
    · have hA := (show (0 < n → pa = some ⟨g, 0, none⟩ ∧ n ≤ ca) ∧ (∀ i, i < n → Cp w ⟨g, i * 11, none⟩ (F i)) from HA)
      obtain ⟨rfl, hca⟩ := hA.1 (by omega)
      have hW := (show Kq w w2 ∧ w2.heap[w.heap.size]? = some (.cells #[.slice (some ⟨g, 0, none⟩) n ca, .int .i64 T] 40 (0, 0)) ∧ w2.heap[w.heap.size + 1]? = some (.cells #[.int .i64 k, .int .i64 m, .float .f64 gg, .string x, .int .i64 r] 26 (0, 0)) ∧ w2.heap.size = w.heap.size + 2 from HW2)
      have hY := (show Kq w2 wr ∧ ∀ j', j' < j → ¬ mk (F j').a = mu from HY)
      have hcj := (hA.2 j hj).kq (hW.1.trans hY.1)
      have hla := hcj.lt
      have b0 := hY.1.cell (cell_of hW.2.1 (j := 0) rfl)
      have p0 := hY.1.cell (cell_of hW.2.2.1 (j := 0) rfl)
      have p1 := hY.1.cell (cell_of hW.2.2.1 (j := 1) rfl)
      have p2 := hY.1.cell (cell_of hW.2.2.1 (j := 2) rfl)
      have p3 := hY.1.cell (cell_of hW.2.2.1 (j := 3) rfl)
      have p4 := hY.1.cell (cell_of hW.2.2.1 (j := 4) rfl)
      have hsz := hY.1.size
      have hz2 := hW.2.2.2
      obtain ⟨a0, a1, a2, a3, a4, a5, a6, a7, a8, a9, a10⟩ := hcj
      have heq := (show ∀ j, j < n → ∀ w, _ from HSM) j hj
      dsimp only at heq a0 a1 a2 a3 a4 a5 a6 a7 a8 a9 a10 hla
      have HKEEP : Hid (∀ (W0 W' : World), Kq W0 W' → W0.heap = wr.heap → (W'.cell? ⟨w.heap.size, 0, none⟩ = some (.slice (some ⟨g, 0, none⟩) n ca) ∧ W'.cell? ⟨g, j * 11, none⟩ = some (.int .i64 (F j).a.k) ∧ W'.cell? ⟨g, j * 11 + 1, none⟩ = some (.int .i64 (F j).a.m) ∧ W'.cell? ⟨g, j * 11 + 2, none⟩ = some (.float .f64 (F j).a.g) ∧ W'.cell? ⟨g, j * 11 + 3, none⟩ = some (.string (F j).a.x) ∧ W'.cell? ⟨g, j * 11 + 4, none⟩ = some (.int .i64 (F j).a.r) ∧ W'.cell? ⟨w.heap.size + 1, 0, none⟩ = some (.int .i64 k) ∧ W'.cell? ⟨w.heap.size + 1, 1, none⟩ = some (.int .i64 m) ∧ W'.cell? ⟨w.heap.size + 1, 2, none⟩ = some (.float .f64 gg) ∧ W'.cell? ⟨w.heap.size + 1, 3, none⟩ = some (.string x) ∧ W'.cell? ⟨w.heap.size + 1, 4, none⟩ = some (.int .i64 r))) := by
        show ∀ (W0 W' : World), _
        intro W0 W' hb he
        have ea : ∀ b, b < wr.heap.size → ∀ j, W'.cell? ⟨b, j, none⟩ = wr.cell? ⟨b, j, none⟩ := fun b hbb j => World.cell?_of_block (by rw [hb.block b (by rw [he]; exact hbb), he])
        simp only [ea g hla, ea w.heap.size (by omega), ea (w.heap.size + 1) (by omega)]
        exact ⟨b0, a0, a1, a2, a3, a4, p0, p1, p2, p3, p4⟩
      have HY2 : Hid (Kq w2 wr ∧ ∀ j', j' < j → ¬ mk (F j').a = mu) := hY
      have HKW : Hid (Kq w w2) := hW.1
      have hjn : (j : Int) < (n : Int) := by omega
      clear HY hY hA hW HW2 HSM hla hsz hz2 a5 a6 a7 a8 a9 a10
      go_wp2_with fail
      go_region_held_law (fun W' => W'.cell? ⟨w.heap.size, 0, none⟩ = some (.slice (some ⟨g, 0, none⟩) n ca) ∧ W'.cell? ⟨g, j * 11, none⟩ = some (.int .i64 (F j).a.k) ∧ W'.cell? ⟨g, j * 11 + 1, none⟩ = some (.int .i64 (F j).a.m) ∧ W'.cell? ⟨g, j * 11 + 2, none⟩ = some (.float .f64 (F j).a.g) ∧ W'.cell? ⟨g, j * 11 + 3, none⟩ = some (.string (F j).a.x) ∧ W'.cell? ⟨g, j * 11 + 4, none⟩ = some (.int .i64 (F j).a.r) ∧ W'.cell? ⟨w.heap.size + 1, 0, none⟩ = some (.int .i64 k) ∧ W'.cell? ⟨w.heap.size + 1, 1, none⟩ = some (.int .i64 m) ∧ W'.cell? ⟨w.heap.size + 1, 2, none⟩ = some (.float .f64 gg) ∧ W'.cell? ⟨w.heap.size + 1, 3, none⟩ = some (.string x) ∧ W'.cell? ⟨w.heap.size + 1, 4, none⟩ = some (.int .i64 r)) (first | exact ⟨b0, a0, a1, a2, a3, a4, p0, p1, p2, p3, p4⟩ | exact (show ∀ (W0 W' : World), _ from HKEEP) _ _ (Kq.of_grown hb5) rfl) ((go_at_call 41; refine (heq _).mono ?_; rintro e w5 ⟨rfl, hb5⟩))
      all_goals
        have hY := (show Kq w2 wr ∧ ∀ j', j' < j → ¬ mk (F j').a = mu from HY2)
        have K5 : Kq w2 w5 := hY.1.trans (Kq.trans (Kq.drew (Kq.refl _)) (Kq.of_grown hb5))
        by_cases hm : mk (F j).a = mu
        · rw [dc_t hm]
          have HE : Hid (Au (j : Int) ∧ Kq w w5) := (⟨((show ∀ r, _ from HAT) (j : Int)).2 (.inr ⟨j, hj, rfl, hm⟩), Kq.trans HKW K5⟩ : _ ∧ _)
          clear HKEEP hb5 HY2 hY K5 HAT heq HKW b0 a0 a1 a2 a3 a4 p0 p1 p2 p3 p4
          go_wp2_with fail
          go_ret
          exact ⟨(j : Int), rfl, (show Au (j : Int) ∧ Kq w w5 from HE).1, (show Au (j : Int) ∧ Kq w w5 from HE).2⟩
        · rw [dc_f hm]
          have HN : Hid (Kq w2 w5 ∧ ∀ j', j' < j + 1 → ¬ mk (F j').a = mu) := (⟨K5, fun j' hj' => by
            by_cases e : j' = j
            · subst e; exact hm
            · exact hY.2 j' (by omega)⟩ : _ ∧ _)
          clear HKEEP hb5 HY2 hY K5 HAT heq HKW b0 a0 a1 a2 a3 a4 p0 p1 p2 p3 p4
          go_wp2_with fail
          go_roundw
          case rel => first | exact ⟨j + 1, by go_num, by omega, HN⟩ | ((repeat apply Exists.intro); exact ⟨⟨j + 1, by go_num, by omega, HN⟩, rfl⟩)
          case measure => simp [intOf]; omega
    · obtain rfl : j = n := by omega
      have hY := (show Kq w2 wr ∧ ∀ j', j' < j → ¬ mk (F j').a = mu from HY)
      have HE : Hid (Au (-1) ∧ Kq w wr) := (⟨((show ∀ r, _ from HAT) (-1)).2 (.inl ⟨rfl, hY.2⟩), (show Kq w w2 ∧ _ from HW2).1.trans hY.1⟩ : _ ∧ _)
      clear HY hY HSM HAT HW2 HA
      go_wp2_with fail
      go_ret
      exact ⟨-1, rfl, (show Au (-1) ∧ Kq w wr from HE).1, (show Au (-1) ∧ Kq w wr from HE).2⟩
/-- an int as a key -/
def ki (z : Int) : Vv := ⟨2, z, 0, ⟨#[]⟩, 0⟩
theorem nil_bytes : (⟨#[]⟩ : ByteArray).toList = [] := by rw [ByteArray.toList_eq]
theorem kok_ki (z : Int) : kok (ki z) := by
  refine ⟨?_, by show ¬ (2 : Int) = 0; omega, fun h => by have : (2 : Int) = 3 := h; omega⟩
  rw [vok2 rfl]
  refine ⟨⟨.inl rfl, .inr ?_, .inr nil_bytes, .inr rfl⟩, trivial⟩
  show FloatKind.f64.format.order 0 0 = some .eq
  decide
theorem mk_ki (v : Vv) (hk : kok v) (z : Int) : mk v = mk (ki z) ↔ v.k = 2 ∧ v.m = z := by
  unfold mk ki
  constructor
  · intro h
    have h1 := congrArg Mk.k h
    have h2 := congrArg Mk.n h
    dsimp only at h1 h2
    rw [if_neg (by omega), if_neg (by omega)] at h2
    exact ⟨h1, h2⟩
  · rintro ⟨h1, h2⟩
    have z1 := (vok2 h1).1 hk.1
    unfold zr at z1
    simp at z1
    have hx : v.x.toList = ([] : List UInt8) := by simpa using z1.2.1
    dsimp only
    rw [if_neg (by omega), if_neg (by omega), h1, h2, hx, z1.2.2, nil_bytes]
/-- how many keys are ints above c -/
noncomputable def cg (F : Nat → Pv) (c : Int) : Nat → Nat
  | 0 => 0
  | j + 1 => cg F c j + (if dc ((F j).a.k = 2 ∧ c < (F j).a.m) then 1 else 0)
theorem cg_le (F : Nat → Pv) (c : Int) : ∀ n, cg F (c + 1) n ≤ cg F c n
  | 0 => Nat.le_refl _
  | j + 1 => by
    unfold cg
    have := cg_le F c j
    by_cases h : (F j).a.k = 2 ∧ c + 1 < (F j).a.m
    · rw [dc_t h, dc_t (show (F j).a.k = 2 ∧ c < (F j).a.m from ⟨h.1, by omega⟩)]
      omega
    · rw [dc_f h]
      simp only [Bool.false_eq_true, if_false]
      omega
theorem cg_lt (F : Nat → Pv) (c : Int) : ∀ n j, j < n → (F j).a.k = 2 → (F j).a.m = c + 1 → cg F (c + 1) n + 1 ≤ cg F c n
  | 0, j, h, _, _ => by omega
  | i + 1, j, h, h1, h2 => by
    unfold cg
    by_cases e : j = i
    · subst e
      have := cg_le F c j
      rw [dc_f (show ¬ ((F j).a.k = 2 ∧ c + 1 < (F j).a.m) from fun q => by omega), dc_t (show (F j).a.k = 2 ∧ c < (F j).a.m from ⟨h1, by omega⟩)]
      simp only [Bool.false_eq_true, if_false, if_true]
      omega
    · have := cg_lt F c i j (by omega) h1 h2
      by_cases h : (F i).a.k = 2 ∧ c + 1 < (F i).a.m
      · rw [dc_t h, dc_t (show (F i).a.k = 2 ∧ c < (F i).a.m from ⟨h.1, by omega⟩)]
        omega
      · rw [dc_f h]
        simp only [Bool.false_eq_true, if_false]
        omega
theorem cg_n (F : Nat → Pv) (c : Int) : ∀ n, cg F c n ≤ n
  | 0 => Nat.le_refl _
  | j + 1 => by
    unfold cg
    have := cg_n F c j
    split <;> omega
/-- an int stands among the keys -/
def hasI (n : Nat) (F : Nat → Pv) (z : Int) : Prop := ∃ j, j < n ∧ mk (F j).a = mk (ki z)
/-- the length of a table -/
def Ln (n : Nat) (F : Nat → Pv) (c : Int) : Prop := 0 ≤ c ∧ (∀ i : Int, 1 ≤ i → i ≤ c → hasI n F i) ∧ ¬ hasI n F (c + 1)
theorem Ln.uniq {n : Nat} {F : Nat → Pv} {c d : Int} (h : Ln n F c) (g : Ln n F d) : c = d := by
  rcases Int.lt_trichotomy c d with q | q | q
  · exact absurd (g.2.1 (c + 1) (by have := h.1; omega) (by omega)) h.2.2
  · exact q
  · exact absurd (h.2.1 (d + 1) (by have := g.1; omega) (by omega)) g.2.2
end Go.Proofs.Ytfpidccjcemcjaa
namespace Go.Proofs.Ytfpidccjcemcjaa
open Go.ChangeShapes Go.WideShapes Go.ChangeAt Go.RowKit
set_option linter.unusedVariables false
set_option maxRecDepth 100000

theorem look_some (m : Vv) : ∀ (L : List (Vv × Int)) (t : Int), look m L = some t → ∃ p ∈ L, mk m = mk p.1 ∧ t = p.2
  | [], t, h => by unfold look at h; cases h
  | p :: L, t, h => by
    unfold look at h
    by_cases q : mk m = mk p.1
    · rw [dc_t q] at h
      simp only [if_true, Option.some.injEq] at h
      exact ⟨p, List.mem_cons_self .., q, h.symm⟩
    · rw [dc_f q] at h
      simp only [Bool.false_eq_true, if_false] at h
      obtain ⟨r, h1, h2⟩ := look_some m L t h
      exact ⟨r, List.mem_cons_of_mem _ h1, h2⟩
theorem look_at {m : Vv} {F : Nat → Pv} {n : Nat} {t : Int} (h : look m (kts (lsp F n)) = some t) : ∃ j, j < n ∧ mk (F j).a = mk m ∧ t = (F j).t := by
  obtain ⟨p, h1, h2, h3⟩ := look_some m _ t h
  unfold kts lsp at h1
  simp only [List.map_map, List.mem_map, List.mem_range] at h1
  obtain ⟨j, hj, rfl⟩ := h1
  exact ⟨j, hj, h2.symm, h3⟩
theorem tok_lt {n : Nat} {F : Nat → Pv} {T : Int} (h : tok n F T) : ∀ a b, a < b → b < n → (F a).t < (F b).t := by
  intro a b hab hb
  cases b with
  | zero => omega
  | succ b =>
    have h1 := tok_asc h a b (by omega) (by omega)
    have h2 : lst F (b + 1) < (F (b + 1)).t := (h.2.2.2 (b + 1) hb).2.2.2.1
    have h3 : lst F (b + 1) = (F b).t := rfl
    omega
theorem tok_range {n : Nat} {F : Nat → Pv} {T : Int} (h : tok n F T) (j : Nat) (hj : j < n) : 1 ≤ (F j).t ∧ (F j).t ≤ 1000000000000 := by
  have h1 := tok_asc h 0 j (by omega) hj
  have h2 : lst F 0 < (F 0).t := (h.2.2.2 0 (by omega)).2.2.2.1
  have h3 : lst F 0 = 0 := rfl
  have h4 := (h.2.2.2 j hj).2.2.2.2.1
  have := h.2.2.1
  omega
theorem bh_at {n : Nat} {F : Nat → Pv} {T : Int} (h : tok n F T) {j r : Nat} (hj : j < n) (hb : Bh n F ((F j).t - 1) r) : r = j := by
  rcases Nat.lt_trichotomy r j with e | e | e
  · have h1 := hb.2.2 r (Nat.le_refl _) (by omega)
    have h2 := tok_lt h r j e hj
    omega
  · exact e
  · have h1 := hb.2.1 j e
    omega
theorem tok_mk {n : Nat} {F : Nat → Pv} {T : Int} (h : tok n F T) {i j : Nat} (hi : i < n) (hj : j < n) (e : mk (F i).a = mk (F j).a) : i = j := by
  rcases Nat.lt_trichotomy i j with q | q | q
  · exact absurd e ((h.2.2.2 j hj).2.2.2.2.2 i q)
  · exact q
  · exact absurd e.symm ((h.2.2.2 i hi).2.2.2.2.2 j q)
/-- what find answers -/
def Fd (n : Nat) (F : Nat → Pv) (u : Vv) (r : Nat) (ok : Bool) : Prop := (ok = false ∧ ∀ j, j < n → ¬ mk (F j).a = mk u) ∨ (ok = true ∧ r < n ∧ mk (F r).a = mk u)
set_option maxHeartbeats 8000000 in
theorem im_find {w : World} {B M n : Nat} {F : Nat → Pv} {v : Value} {T : Int} (u : Vv) (hu : kok u) (W : World) (hL : Lg w B M (lsp F n) v T W) (ht : tok n F T) : Calls Try.prog 69 #[.pointer (some ⟨B, 0, none⟩), vv u] W fun e w' => ∃ (r : Nat) (ok : Bool), e = .returned (.tuple #[.int .i64 (r : Int), .bool ok]) ∧ Fd n F u r ok ∧ Kq W w' := by
  have HK := fun w => im_mark u hu w
  obtain ⟨mw, hmw⟩ : ∃ mw, mw = mkw u := ⟨_, rfl⟩
  rw [← hmw] at HK
  have HL : ∀ W, Mp W M (kts (lsp F n)) → (Instr.lookup 72 (.map (some M)) mw true).run Try.prog W = .ok (lkv (look u (kts (lsp F n)))) W := fun W hW => by rw [hmw]; exact run_lookMk hW u
  obtain ⟨tn, ok, hlk, htn, HFD⟩ : ∃ (tn : Int) (ok : Bool), lkv (look u (kts (lsp F n))) = .tuple #[.int .i64 tn, .bool ok] ∧ (0 ≤ tn ∧ tn ≤ 1000000000000) ∧ ∀ r, Bh n F (tn - 1) r → Fd n F u r ok := by
    cases q : look u (kts (lsp F n)) with
    | none => exact ⟨0, false, rfl, by omega, fun r _ => .inl ⟨rfl, (look_lsp _ F n).1 q⟩⟩
    | some t =>
      obtain ⟨j, hj, h1, rfl⟩ := look_at q
      have hr := tok_range ht j hj
      refine ⟨(F j).t, true, rfl, by omega, fun r hb => ?_⟩
      obtain rfl := bh_at ht hj hb
      exact .inr ⟨rfl, hj, h1⟩
  rw [hlk] at HL
  have HFH : Hid (∀ r, Bh n F (tn - 1) r → Fd n F u r ok) := HFD
  have HBH : Hid (∀ W', Kq W W' → Calls Try.prog 73 #[.pointer (some ⟨B, 0, none⟩), .int .i64 (tn - 1)] W' fun e w' => ∃ r : Nat, e = .returned (.int .i64 (r : Int)) ∧ Bh n F (tn - 1) r ∧ Kq W' w') := (fun W' q => im_behind (tn - 1) W' (hL.on q) ht : ∀ W', Kq W W' → _)
  clear hlk HFD hu hmw ht
  generalize Fd n F u = Fu at HFH ⊢
  obtain ⟨k, m, g, x, r⟩ := u
  unfold vv at HK ⊢
  dsimp only at HK ⊢
  obtain ⟨w1, hw1⟩ : ∃ w1, w1 = W.alloc (.cells #[.int .i64 k, .int .i64 m, .float .f64 g, .string x, .int .i64 r] 26) := ⟨_, rfl⟩
  have k1 : Kq W w1 := by rw [hw1]; exact kq_alloc _ _ _
  have S1 : w1.cell? ⟨B, 2, none⟩ = some (.map (some M)) ∧ Mp w1 M (kts (lsp F n)) ∧ Vc w1 W.heap.size ⟨k, m, g, x, r⟩ := ⟨k1.cell (cell_of hL.ob rfl), hL.mp.kq k1, by rw [hw1]; exact Vc.new _ _ _ _ _ _ _⟩
  have HS : Hid (∀ W', Kq w1 W' → W'.cell? ⟨B, 2, none⟩ = some (.map (some M)) ∧ Mp W' M (kts (lsp F n)) ∧ Vc W' W.heap.size ⟨k, m, g, x, r⟩) := (fun W' q => ⟨q.cell S1.1, S1.2.1.kq q, S1.2.2.kq q⟩ : ∀ W', Kq w1 W' → _)
  have HK1 : Hid (Kq W w1) := k1
  clear hL S1 k1
  have hst : ∀ (a : Addr) (n : Nat) (m : Mode) (w : World), (store a (.float .f64 n) m).run Try.prog w = stored Try.prog w a (.float .f64 n) m := fun a n m w => run_store _ _ _ _ _ rfl
  go_enter Try.func69, Try.ntmps69
  go_wp2_with fail
  rw [← hw1]
  clear hw1
  refine AnyL.region (S := fun W' : World => W'.cell? ⟨B, 2, none⟩ = some (.map (some M)) ∧ Mp W' M (kts (lsp F n)) ∧ Vc W' W.heap.size ⟨k, m, g, x, r⟩) (z := 99) (by kernel_rfl) ?_
  have hS0 : (fun W' : World => W'.cell? ⟨B, 2, none⟩ = some (.map (some M)) ∧ Mp W' M (kts (lsp F n)) ∧ Vc W' W.heap.size ⟨k, m, g, x, r⟩) w1.drew := (show ∀ W', Kq w1 W' → W'.cell? ⟨B, 2, none⟩ = some (.map (some M)) ∧ Mp W' M (kts (lsp F n)) ∧ Vc W' W.heap.size ⟨k, m, g, x, r⟩ from HS) w1.drew (Kq.drew (Kq.refl _))
  refine AnyL.takeAt 0 (.pointer (some ⟨B, 0, none⟩)) rfl (by kernel_rfl) (by kernel_rfl) (by kernel_rfl) (by kernel_rfl) (fun _ _ _ h => h) rfl hS0 (by intro W hW; obtain ⟨q0, q1, ⟨q2, q3, q4, q5, q6⟩⟩ := hW; go_simp) ?_
  try simp only [Act.put, List.setIfInBounds_toArray, List.set_cons_zero, List.set_cons_succ]
  refine AnyL.takeAt 1 (.pointer (some ⟨B, 0, none⟩)) rfl (by kernel_rfl) (by kernel_rfl) (by kernel_rfl) (by kernel_rfl) (fun _ _ _ h => h) rfl hS0 (by intro W hW; obtain ⟨q0, q1, ⟨q2, q3, q4, q5, q6⟩⟩ := hW; go_simp) ?_
  try simp only [Act.put, List.setIfInBounds_toArray, List.set_cons_zero, List.set_cons_succ]
  refine AnyL.takeAt 2 (.pointer (some ⟨B, 2, none⟩)) rfl (by kernel_rfl) (by kernel_rfl) (by kernel_rfl) (by kernel_rfl) (fun _ _ _ h => h) rfl hS0 (by intro W hW; obtain ⟨q0, q1, ⟨q2, q3, q4, q5, q6⟩⟩ := hW; go_simp) ?_
  try simp only [Act.put, List.setIfInBounds_toArray, List.set_cons_zero, List.set_cons_succ]
  refine AnyL.takeAt 3 (.map (some M)) rfl (by kernel_rfl) (by kernel_rfl) (by kernel_rfl) (by kernel_rfl) (fun _ _ _ h => h) rfl hS0 (by intro W hW; obtain ⟨q0, q1, ⟨q2, q3, q4, q5, q6⟩⟩ := hW; go_simp) ?_
  try simp only [Act.put, List.setIfInBounds_toArray, List.set_cons_zero, List.set_cons_succ]
  refine AnyL.takeAt 4 (.agg #[.int .i64 k, .int .i64 m, .float .f64 g, .string x, .int .i64 r]) rfl (by kernel_rfl) (by kernel_rfl) (by kernel_rfl) (by kernel_rfl) (fun _ _ _ h => h) rfl hS0 (by intro W hW; obtain ⟨q0, q1, ⟨q2, q3, q4, q5, q6⟩⟩ := hW; go_simp) ?_
  try simp only [Act.put, List.setIfInBounds_toArray, List.set_cons_zero, List.set_cons_succ]
  refine AnyL.oneAt 5 rfl (by kernel_rfl) rfl ?_
  intro K hK
  go_simp
  refine (HK _).mono ?_
  rintro e w2 ⟨rfl, g2⟩
  have K2 : Hid (Kq w1 w2) := Kq.trans (Kq.drew (Kq.refl _)) g2
  have hS2 := (show ∀ W', Kq w1 W' → W'.cell? ⟨B, 2, none⟩ = some (.map (some M)) ∧ Mp W' M (kts (lsp F n)) ∧ Vc W' W.heap.size ⟨k, m, g, x, r⟩ from HS) w2 K2
  clear g2
  refine hK.out _ _ (fun _ => hS2) ?_
  clear hK K
  try simp only [Act.put, List.setIfInBounds_toArray, List.set_cons_zero, List.set_cons_succ]
  refine AnyL.takeAt 6 (.tuple #[.int .i64 tn, .bool ok]) rfl (by kernel_rfl) (by kernel_rfl) (by kernel_rfl) (by kernel_rfl) (fun _ _ _ h => h) rfl hS2 (by intro W hW; have hl := HL W hW.2.1; go_simp) ?_
  try simp only [Act.put, List.setIfInBounds_toArray, List.set_cons_zero, List.set_cons_succ]
  refine AnyL.takeAt 7 (.tuple #[.int .i64 tn, .bool ok]) rfl (by kernel_rfl) (by kernel_rfl) (by kernel_rfl) (by kernel_rfl) (fun _ _ _ h => h) rfl hS2 (by intro W hW; go_simp) ?_
  try simp only [Act.put, List.setIfInBounds_toArray, List.set_cons_zero, List.set_cons_succ]
  refine AnyL.takeAt 8 (.int .i64 tn) rfl (by kernel_rfl) (by kernel_rfl) (by kernel_rfl) (by kernel_rfl) (fun _ _ _ h => h) rfl hS2 (by intro W hW; go_simp) ?_
  try simp only [Act.put, List.setIfInBounds_toArray, List.set_cons_zero, List.set_cons_succ]
  refine AnyL.takeAt 9 (.bool ok) rfl (by kernel_rfl) (by kernel_rfl) (by kernel_rfl) (by kernel_rfl) (fun _ _ _ h => h) rfl hS2 (by intro W hW; go_simp) ?_
  try simp only [Act.put, List.setIfInBounds_toArray, List.set_cons_zero, List.set_cons_succ]
  refine AnyL.takeAt 10 (.int .i64 tn) rfl (by kernel_rfl) (by kernel_rfl) (by kernel_rfl) (by kernel_rfl) (fun _ _ _ h => h) rfl hS2 (by intro W hW; go_simp) ?_
  try simp only [Act.put, List.setIfInBounds_toArray, List.set_cons_zero, List.set_cons_succ]
  refine AnyL.takeAt 11 (.bool ok) rfl (by kernel_rfl) (by kernel_rfl) (by kernel_rfl) (by kernel_rfl) (fun _ _ _ h => h) rfl hS2 (by intro W hW; go_simp) ?_
  try simp only [Act.put, List.setIfInBounds_toArray, List.set_cons_zero, List.set_cons_succ]
  refine AnyL.done (by kernel_rfl) ?_
  have KW : Hid (Kq W w2) := Kq.trans HK1 K2
  have HB2 : Hid (Calls Try.prog 73 #[.pointer (some ⟨B, 0, none⟩), .int .i64 (tn - 1)] w2 fun e w' => ∃ r : Nat, e = .returned (.int .i64 (r : Int)) ∧ Bh n F (tn - 1) r ∧ Kq w2 w') := (show ∀ W', Kq W W' → _ from HBH) w2 KW
  clear hS0 hS2 HS HL HK K2 HK1 HBH
  go_wp2_with fail
  refine (show Calls Try.prog 73 #[.pointer (some ⟨B, 0, none⟩), .int .i64 (tn - 1)] w2 _ from HB2).mono ?_
  rintro e w3 ⟨r', rfl, hb, k3⟩
  have HE : Hid (Fu r' ok ∧ Kq W w3) := (⟨(show ∀ r, Bh n F (tn - 1) r → Fu r ok from HFH) r' hb, Kq.trans KW k3⟩ : _ ∧ _)
  clear HB2 HFH KW hb k3
  go_wp2_with fail
  refine bodyPost_ret (by simp [results, Try.results69, go_sem]; rfl) rfl ?_
  exact ⟨r', ok, rfl, (show Fu r' ok ∧ Kq W w3 from HE).1, (show Fu r' ok ∧ Kq W w3 from HE).2⟩
/-- the value at a key -/
def vz : Vv := ⟨0, 0, 0, ⟨#[]⟩, 0⟩
def Gt (n : Nat) (F : Nat → Pv) (u y : Vv) : Prop := (y = vz ∧ ∀ j, j < n → ¬ mk (F j).a = mk u) ∨ ∃ j, j < n ∧ mk (F j).a = mk u ∧ y = (F j).b
/-- what Get answers -/
def GtA (n : Nat) (F : Nat → Pv) (T c : Int) (u y : Vv) : Prop := (¬ (tok n F T ∧ c = 0) ∧ y = vz) ∨ (tok n F T ∧ c = 0 ∧ Gt n F u y)
theorem GtA.uniq {n : Nat} {F : Nat → Pv} {T c : Int} {u y z : Vv} (h : GtA n F T c u y) (g : GtA n F T c u z) : y = z := by
  rcases h with ⟨h1, rfl⟩ | ⟨h1, h2, h3⟩ <;> rcases g with ⟨g1, rfl⟩ | ⟨g1, g2, g3⟩
  · rfl
  · exact absurd ⟨g1, g2⟩ h1
  · exact absurd ⟨h1, h2⟩ g1
  · rcases h3 with ⟨rfl, h3⟩ | ⟨j, hj, e1, rfl⟩ <;> rcases g3 with ⟨rfl, g3⟩ | ⟨i, hi, e2, rfl⟩
    · rfl
    · exact absurd e2 (h3 i hi)
    · exact absurd e1 (g3 j hj)
    · rw [tok_mk h1 hj hi (e1.trans e2.symm)]
theorem GtA.glt {n : Nat} {F : Nat → Pv} {T c : Int} {u y : Vv} (h : GtA n F T c u y) (tb : Tb n F) : y.g < 18446744073709551616 := by
  rcases h with ⟨h1, rfl⟩ | ⟨h1, h2, ⟨rfl, h3⟩ | ⟨j, hj, e1, rfl⟩⟩
  · show (0 : Nat) < _; omega
  · show (0 : Nat) < _; omega
  · exact (tb.b j hj).g
theorem ky_key {v : Vv} {u : Vv} (h : Ky v 0 u) : kok u := by
  generalize hc : (0 : Int) = c at h
  cases h with
  | bad ho => omega
  | nil ho k0 => omega
  | nan ho k3 hn => omega
  | whole z ho k3 hw => exact kok_ki z
  | flt ho k3 hn hw => exact ⟨ho, by omega, fun _ => ⟨hn, hw⟩⟩
  | oth ho k0 k3 => exact ⟨ho, k0, fun h => absurd h k3⟩
end Go.Proofs.Ytfpidccjcemcjaa
