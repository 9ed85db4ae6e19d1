import Derived.Test.YtogenhnonjkanaaDoorSec
namespace Go.Proofs.YtogenhnonjkanaaDoor
open Go.ChangeShapes Go.WideShapes Go.ChangeAt Go.RowKit
set_option linter.unusedVariables false
theorem RowC.mono {W W' : World} {v : Value} {g n : Nat} {A : Nat → Tv} (h : RowC W v g n A) (hb : 0 < n → W'.heap[g]? = W.heap[g]?) : RowC W' v g n A := by
  obtain ⟨pa, cap, h1, h2, h3⟩ := h
  exact ⟨pa, cap, h1, h2, fun i hi => (h3 i hi).block (hb (by omega))⟩
theorem RowC.lt {W : World} {v : Value} {g n : Nat} {A : Nat → Tv} (h : RowC W v g n A) (hn : 0 < n) : g < W.heap.size := by
  obtain ⟨pa, cap, h1, h2, h3⟩ := h
  exact (h3 0 hn).lt
theorem RowC.kb {W W' : World} {v : Value} {g n B : Nat} {A : Nat → Tv} (h : RowC W v g n A) (hk : Kb B W W') (hB : 0 < n → g ≠ B) : RowC W' v g n A :=
  h.mono fun hn => hk.block g (h.lt hn) (hB hn)
theorem flat_get (tk : Nat → Tk) : ∀ (xs : List (Nat × Int)) (i j : Nat) (x : Nat × Int), xs[i]? = some x → j < 6 → (xs.flatMap (tcs tk))[i * 6 + j]? = (tcs tk x)[j]?
  | [], i, j, x, h, _ => by simp at h
  | y :: r, i, j, x, h, hj => by
    rw [List.flatMap_cons]
    have hl : (tcs tk y).length = 6 := rfl
    cases i with
    | zero =>
      have : y = x := by simpa using h
      subst this
      rw [Nat.zero_mul, Nat.zero_add, List.getElem?_append_left (by omega)]
    | succ i =>
      rw [List.getElem?_append_right (by omega), hl, show (i + 1) * 6 + j - 6 = i * 6 + j by omega]
      exact flat_get tk r i j x (by simpa using h) hj
/-- the tokens of a row -/
def tvs (tk : Nat → Tk) (xs : List (Nat × Int)) (i : Nat) : Tv := match xs[i]? with
  | some x => ⟨(tk x.1).kind, x.1, (tk x.1).to, x.2, (tk x.1).num, (tk x.1).text⟩
  | none => ⟨0, 0, 0, 0, 0, ⟨#[]⟩⟩
theorem addr_add (g m : Nat) : (⟨g, 0, none⟩ : Addr).add m = ⟨g, m, none⟩ := by
  unfold Addr.add
  split
  · rename_i h
    have h2 : m = 0 := by simpa using h
    rw [h2]
  · simp
/-- a row of its own: its block lies at base or behind it -/
def Own (W : World) (base : Nat) (v : Value) (n : Nat) (A : Nat → Tv) : Prop := ∃ g, RowC W v g n A ∧ (0 < n → base ≤ g ∧ ∀ j, W.frozen? ⟨g, j, none⟩ = false)
theorem own_row {W : World} {base : Nat} {v : Value} {tk : Nat → Tk} {xs : List (Nat × Int)} (h : W.ownsRow base 33 6 v xs.length (xs.flatMap (tcs tk))) : Own W base v xs.length (tvs tk xs) := by
  rcases h.2 with ⟨rfl, h0⟩ | ⟨g, cap, cur, rfl, h1, h2, h3, h4, h5, h6⟩
  · exact ⟨0, ⟨none, 0, by rw [h0], fun g => by omega, fun i hi => by omega⟩, fun g => by omega⟩
  · refine ⟨g, ⟨_, cap, rfl, fun _ => ⟨rfl, h3⟩, fun i hi => ?_⟩, fun _ => ⟨h1, fun j => by simp [World.frozen?, h2]⟩⟩
    have hx := List.getElem?_eq_getElem hi
    have e : tvs tk xs i = ⟨(tk (xs[i]).1).kind, (xs[i]).1, (tk (xs[i]).1).to, (xs[i]).2, (tk (xs[i]).1).num, (tk (xs[i]).1).text⟩ := by unfold tvs; rw [hx]
    have c : ∀ j u, j < 6 → (tcs tk xs[i])[j]? = some u → W.cell? ⟨g, i * 6 + j, none⟩ = some u := by
      intro j u hj hu
      have := h.cells (g := g) rfl (i * 6 + j) u (by rw [flat_get tk xs i j _ hx hj]; exact hu)
      rw [addr_add] at this
      exact this
    rw [e]
    exact ⟨c 0 _ (by omega) rfl, c 1 _ (by omega) rfl, c 2 _ (by omega) rfl, c 3 _ (by omega) rfl, c 4 _ (by omega) rfl, c 5 _ (by omega) rfl⟩
theorem own_nil (W : World) (base : Nat) (A : Nat → Tv) : Own W base (.slice none 0 0) 0 A := ⟨0, ⟨none, 0, rfl, fun g => by omega, fun i hi => by omega⟩, fun g => by omega⟩
set_option maxRecDepth 100000 in
set_option maxHeartbeats 4000000 in
theorem eq_scan (o : Bool) (a : Int) {va vb : Value} {ga gb n : Nat} {A : Nat → Tv} (w : World) (ha : RowC w va ga n A) (hb : RowC w vb gb n A) (hn : n ≤ 65536) :
    Calls Tryd.prog 7 #[.agg #[.bool o, .int .i64 a, va], .agg #[.bool o, .int .i64 a, vb]] w fun e w' => e = .returned (.bool true) ∧ Below w.heap.size w w' := by
  have hx : ∀ W', Below w.heap.size w W' → Calls Tryd.prog 17 #[va, vb] W' fun e w' => e = .returned (.bool true) ∧ Below W'.heap.size W' w' := fun W' hb' =>
    eq_toks W' (ha.mono fun h0 => hb'.block _ (ha.lt h0)) (hb.mono fun h0 => hb'.block _ (hb.lt h0)) hn
  have h2 : ∀ x y, Calls Tryd.prog 17 #[va, vb] ((w.alloc x).alloc y) fun e w' => e = .returned (.bool true) ∧ Below w.heap.size w w' := fun x y =>
    (hx _ (bel2 w x y)).mono fun e w' hh => ⟨hh.1, (bel2 w x y).trans (hh.2.mono (by simp; omega))⟩
  obtain ⟨pa, ca, rfl, _, _⟩ := ha
  obtain ⟨pb, cb, rfl, _, _⟩ := hb
  clear hx hn
  go_enter Tryd.func7, Tryd.ntmps7
  go_wp2_with fail
  refine (h2 _ _).mono ?_
  rintro e w1 ⟨rfl, hb1⟩
  have HB : Hid (Below w.heap.size w w1) := hb1
  clear h2 hb1
  go_wp2_with fail
  go_ret
  exact ⟨rfl, HB⟩
set_option maxRecDepth 100000 in
set_option maxHeartbeats 4000000 in
theorem mark_scan (o : Bool) (a : Int) {v : Value} {g n : Nat} {A : Nat → Tv} (w : World) (ha : RowC w v g n A) (hf : 0 < n → ∀ j, w.frozen? ⟨g, j, none⟩ = false) (hn : n ≤ 65536) :
    Calls Tryd.prog 8 #[.agg #[.bool o, .int .i64 a, v], .int .i64 1] w fun e w' => e = .returned (.int .i64 (1 + 6 * (n : Int))) ∧ Kb g w w' ∧ (n = 0 → ∀ B, Kb B w w') ∧ RowC w' v g n mkT := by
  have h2 : ∀ x, Calls Tryd.prog 18 #[v, .int .i64 1] (w.alloc x) fun e w' => e = .returned (.int .i64 (1 + 6 * (n : Int))) ∧ Kb g w w' ∧ (n = 0 → ∀ B, Kb B w w') ∧ RowC w' v g n mkT := by
    intro x
    have hbw : Below w.heap.size w (w.alloc x) := (Below.refl _ w).alloc (Nat.le_refl _) _
    have hr : RowC (w.alloc x) v g n A := ha.mono fun h0 => hbw.block _ (ha.lt h0)
    refine (mark_toks (w.alloc x) hr (fun h0 j => ?_) hn).mono fun e w' hh => ⟨hh.1, (Kb.of_below hbw (Nat.le_refl _)).trans hh.2.1, fun h0 B => (Kb.of_below hbw (Nat.le_refl _)).trans (hh.2.2.1 h0 B), hh.2.2.2⟩
    rw [World.frozen?_of_block (hbw.block _ (ha.lt h0))]; exact hf h0 j
  obtain ⟨pa, ca, rfl, _, _⟩ := ha
  clear hn hf
  go_enter Tryd.func8, Tryd.ntmps8
  go_wp2_with fail
  refine (h2 _).mono ?_
  rintro e w1 ⟨rfl, hb1⟩
  have HB : Hid (Kb g w w1 ∧ (n = 0 → ∀ B, Kb B w w1) ∧ RowC w1 (.slice pa n ca) g n mkT) := hb1
  clear h2 hb1
  go_wp2_with fail
  go_ret
  exact ⟨rfl, HB⟩
set_option maxRecDepth 100000 in
set_option maxHeartbeats 4000000 in
theorem held_scan (o : Bool) (a : Int) {v : Value} {g n : Nat} (w : World) (ha : RowC w v g n mkT) (hn : n ≤ 65536) :
    Calls Tryd.prog 9 #[.agg #[.bool o, .int .i64 a, v], .int .i64 1] w fun e w' => e = .returned (.int .i64 (1 + 6 * (n : Int))) ∧ Below w.heap.size w w' := by
  have h2 : ∀ x, Calls Tryd.prog 19 #[v, .int .i64 1] (w.alloc x) fun e w' => e = .returned (.int .i64 (1 + 6 * (n : Int))) ∧ Below w.heap.size w w' := by
    intro x
    have hbw : Below w.heap.size w (w.alloc x) := (Below.refl _ w).alloc (Nat.le_refl _) _
    have hr : RowC (w.alloc x) v g n mkT := ha.mono fun h0 => hbw.block _ (ha.lt h0)
    exact (held_toks (w.alloc x) hr hn).mono fun e w' hh => ⟨hh.1, hbw.trans (hh.2.mono (by simp))⟩
  obtain ⟨pa, ca, rfl, _, _⟩ := ha
  have hnI : (0 : Int) ≤ 1 + 6 * (n : Int) := by omega
  generalize 1 + 6 * (n : Int) = k at *
  clear hn
  go_enter Tryd.func9, Tryd.ntmps9
  go_wp2_with fail
  refine (h2 _).mono ?_
  rintro e w1 ⟨rfl, hb1⟩
  have HB : Hid (Below w.heap.size w w1) := hb1
  clear h2 hb1
  go_wp2_with fail
  go_ret
  exact ⟨rfl, HB⟩
end Go.Proofs.YtogenhnonjkanaaDoor
