import Derived.Test.YtogenhnonjkanaaDoorMSec
namespace Go.Proofs.YtogenhnonjkanaaDoor
open Go.ChangeShapes Go.WideShapes Go.ChangeAt Go.RowKit
set_option linter.unusedVariables false
theorem RowC.mono {W W' : World} {v : Value} {g n : Nat} {A : Nat → Tv} (h : RowC W v g n A) (hb : 0 < n → W'.heap[g]? = W.heap[g]?) : RowC W' v g n A := by
  obtain ⟨pa, cap, h1, h2, h3⟩ := h
  exact ⟨pa, cap, h1, h2, fun i hi => (h3 i hi).block (hb (by omega))⟩
theorem RowC.lt {W : World} {v : Value} {g n : Nat} {A : Nat → Tv} (h : RowC W v g n A) (hn : 0 < n) : g < W.heap.size := by
  obtain ⟨pa, cap, h1, h2, h3⟩ := h
  exact (h3 0 hn).lt
theorem RowC.kb {W W' : World} {v : Value} {g n B : Nat} {A : Nat → Tv} (h : RowC W v g n A) (hk : Kb B W W') (hB : 0 < n → g ≠ B) : RowC W' v g n A :=
  h.mono fun hn => hk.block g (h.lt hn) (hB hn)
theorem flat_get (tk : Nat → Tk) : ∀ (xs : List (Nat × Int)) (i j : Nat) (x : Nat × Int), xs[i]? = some x → j < 6 → (xs.flatMap (tcs tk))[i * 6 + j]? = (tcs tk x)[j]?
  | [], i, j, x, h, _ => by simp at h
  | y :: r, i, j, x, h, hj => by
    rw [List.flatMap_cons]
    have hl : (tcs tk y).length = 6 := rfl
    cases i with
    | zero =>
      have : y = x := by simpa using h
      subst this
      rw [Nat.zero_mul, Nat.zero_add, List.getElem?_append_left (by omega)]
    | succ i =>
      rw [List.getElem?_append_right (by omega), hl, show (i + 1) * 6 + j - 6 = i * 6 + j by omega]
      exact flat_get tk r i j x (by simpa using h) hj
/-- the tokens of a row -/
def tvs (tk : Nat → Tk) (xs : List (Nat × Int)) (i : Nat) : Tv := match xs[i]? with
  | some x => ⟨(tk x.1).kind, x.1, (tk x.1).to, x.2, (tk x.1).num, (tk x.1).text⟩
  | none => ⟨0, 0, 0, 0, 0, ⟨#[]⟩⟩
theorem addr_add (g m : Nat) : (⟨g, 0, none⟩ : Addr).add m = ⟨g, m, none⟩ := by
  unfold Addr.add
  split
  · rename_i h
    have h2 : m = 0 := by simpa using h
    rw [h2]
  · simp
/-- a row of its own: its block lies at base or behind it -/
def Own (W : World) (base : Nat) (v : Value) (n : Nat) (A : Nat → Tv) : Prop := ∃ g, RowC W v g n A ∧ (0 < n → base ≤ g ∧ ∀ j, W.frozen? ⟨g, j, none⟩ = false)
theorem own_row {W : World} {base : Nat} {v : Value} {tk : Nat → Tk} {xs : List (Nat × Int)} (h : W.ownsRow base 33 6 v xs.length (xs.flatMap (tcs tk))) : Own W base v xs.length (tvs tk xs) := by
  rcases h.2 with ⟨rfl, h0⟩ | ⟨g, cap, cur, rfl, h1, h2, h3, h4, h5, h6⟩
  · exact ⟨0, ⟨none, 0, by rw [h0], fun g => by omega, fun i hi => by omega⟩, fun g => by omega⟩
  · refine ⟨g, ⟨_, cap, rfl, fun _ => ⟨rfl, h3⟩, fun i hi => ?_⟩, fun _ => ⟨h1, fun j => by simp [World.frozen?, h2]⟩⟩
    have hx := List.getElem?_eq_getElem hi
    have e : tvs tk xs i = ⟨(tk (xs[i]).1).kind, (xs[i]).1, (tk (xs[i]).1).to, (xs[i]).2, (tk (xs[i]).1).num, (tk (xs[i]).1).text⟩ := by unfold tvs; rw [hx]
    have c : ∀ j u, j < 6 → (tcs tk xs[i])[j]? = some u → W.cell? ⟨g, i * 6 + j, none⟩ = some u := by
      intro j u hj hu
      have := h.cells (g := g) rfl (i * 6 + j) u (by rw [flat_get tk xs i j _ hx hj]; exact hu)
      rw [addr_add] at this
      exact this
    rw [e]
    exact ⟨c 0 _ (by omega) rfl, c 1 _ (by omega) rfl, c 2 _ (by omega) rfl, c 3 _ (by omega) rfl, c 4 _ (by omega) rfl, c 5 _ (by omega) rfl⟩
theorem own_nil (W : World) (base : Nat) (A : Nat → Tv) : Own W base (.slice none 0 0) 0 A := ⟨0, ⟨none, 0, rfl, fun g => by omega, fun i hi => by omega⟩, fun g => by omega⟩
set_option maxRecDepth 100000 in
set_option maxHeartbeats 4000000 in
theorem eq_scan (o : Bool) (a : Int) {va vb : Value} {ga gb n : Nat} {A : Nat → Tv} (w : World) (ha : RowC w va ga n A) (hb : RowC w vb gb n A) (hn : n ≤ 65536) :
    Calls Tryd.prog 7 #[.agg #[.bool o, .int .i64 a, va], .agg #[.bool o, .int .i64 a, vb]] w fun e w' => e = .returned (.bool true) ∧ Below w.heap.size w w' := by
  have hx : ∀ W', Below w.heap.size w W' → Calls Tryd.prog 17 #[va, vb] W' fun e w' => e = .returned (.bool true) ∧ Below W'.heap.size W' w' := fun W' hb' =>
    eq_toks W' (ha.mono fun h0 => hb'.block _ (ha.lt h0)) (hb.mono fun h0 => hb'.block _ (hb.lt h0)) hn
  have h2 : ∀ x y, Calls Tryd.prog 17 #[va, vb] ((w.alloc x).alloc y) fun e w' => e = .returned (.bool true) ∧ Below w.heap.size w w' := fun x y =>
    (hx _ (bel2 w x y)).mono fun e w' hh => ⟨hh.1, (bel2 w x y).trans (hh.2.mono (by simp; omega))⟩
  obtain ⟨pa, ca, rfl, _, _⟩ := ha
  obtain ⟨pb, cb, rfl, _, _⟩ := hb
  clear hx hn
  go_enter Tryd.func7, Tryd.ntmps7
  go_wp2_with fail
  refine (h2 _ _).mono ?_
  rintro e w1 ⟨rfl, hb1⟩
  have HB : Hid (Below w.heap.size w w1) := hb1
  clear h2 hb1
  go_wp2_with fail
  go_ret
  exact ⟨rfl, HB⟩
set_option maxRecDepth 100000 in
set_option maxHeartbeats 4000000 in
theorem mark_scan (o : Bool) (a : Int) {v : Value} {g n : Nat} {A : Nat → Tv} (w : World) (ha : RowC w v g n A) (hf : 0 < n → ∀ j, w.frozen? ⟨g, j, none⟩ = false) (hn : n ≤ 65536) :
    Calls Tryd.prog 8 #[.agg #[.bool o, .int .i64 a, v], .int .i64 1] w fun e w' => e = .returned (.int .i64 (1 + 6 * (n : Int))) ∧ Kb g w w' ∧ (n = 0 → ∀ B, Kb B w w') ∧ RowC w' v g n mkT := by
  have h2 : ∀ x, Calls Tryd.prog 18 #[v, .int .i64 1] (w.alloc x) fun e w' => e = .returned (.int .i64 (1 + 6 * (n : Int))) ∧ Kb g w w' ∧ (n = 0 → ∀ B, Kb B w w') ∧ RowC w' v g n mkT := by
    intro x
    have hbw : Below w.heap.size w (w.alloc x) := (Below.refl _ w).alloc (Nat.le_refl _) _
    have hr : RowC (w.alloc x) v g n A := ha.mono fun h0 => hbw.block _ (ha.lt h0)
    refine (mark_toks (w.alloc x) hr (fun h0 j => ?_) hn).mono fun e w' hh => ⟨hh.1, (Kb.of_below hbw (Nat.le_refl _)).trans hh.2.1, fun h0 B => (Kb.of_below hbw (Nat.le_refl _)).trans (hh.2.2.1 h0 B), hh.2.2.2⟩
    rw [World.frozen?_of_block (hbw.block _ (ha.lt h0))]; exact hf h0 j
  obtain ⟨pa, ca, rfl, _, _⟩ := ha
  clear hn hf
  go_enter Tryd.func8, Tryd.ntmps8
  go_wp2_with fail
  refine (h2 _).mono ?_
  rintro e w1 ⟨rfl, hb1⟩
  have HB : Hid (Kb g w w1 ∧ (n = 0 → ∀ B, Kb B w w1) ∧ RowC w1 (.slice pa n ca) g n mkT) := hb1
  clear h2 hb1
  go_wp2_with fail
  go_ret
  exact ⟨rfl, HB⟩
set_option maxRecDepth 100000 in
set_option maxHeartbeats 4000000 in
theorem held_scan (o : Bool) (a : Int) {v : Value} {g n : Nat} (w : World) (ha : RowC w v g n mkT) (hn : n ≤ 65536) :
    Calls Tryd.prog 9 #[.agg #[.bool o, .int .i64 a, v], .int .i64 1] w fun e w' => e = .returned (.int .i64 (1 + 6 * (n : Int))) ∧ Below w.heap.size w w' := by
  have h2 : ∀ x, Calls Tryd.prog 19 #[v, .int .i64 1] (w.alloc x) fun e w' => e = .returned (.int .i64 (1 + 6 * (n : Int))) ∧ Below w.heap.size w w' := by
    intro x
    have hbw : Below w.heap.size w (w.alloc x) := (Below.refl _ w).alloc (Nat.le_refl _) _
    have hr : RowC (w.alloc x) v g n mkT := ha.mono fun h0 => hbw.block _ (ha.lt h0)
    exact (held_toks (w.alloc x) hr hn).mono fun e w' hh => ⟨hh.1, hbw.trans (hh.2.mono (by simp))⟩
  obtain ⟨pa, ca, rfl, _, _⟩ := ha
  have hnI : (0 : Int) ≤ 1 + 6 * (n : Int) := by omega
  generalize 1 + 6 * (n : Int) = k at *
  clear hn
  go_enter Tryd.func9, Tryd.ntmps9
  go_wp2_with fail
  refine (h2 _).mono ?_
  rintro e w1 ⟨rfl, hb1⟩
  have HB : Hid (Below w.heap.size w w1) := hb1
  clear h2 hb1
  go_wp2_with fail
  go_ret
  exact ⟨rfl, HB⟩
end Go.Proofs.YtogenhnonjkanaaDoor
namespace Go.Proofs.YtogenhnonjkanaaDoor
open Go.ChangeShapes Go.WideShapes Go.ChangeAt Go.RowKit
set_option linter.unusedVariables false
/-- a scan's answer in its block -/
def Blk (W : World) (b : Nat) (o : Bool) (a : Int) (v : Value) : Prop := W.heap[b]? = some (.cells #[.bool o, .int .i64 a, v] 24 (0, 0))
theorem Blk.new (W : World) (o : Bool) (a : Int) (v : Value) : Blk (W.alloc (.cells #[.bool o, .int .i64 a, v] 24)) W.heap.size o a v := World.alloc_heap_new W _
theorem Blk.c0 {W : World} {b : Nat} {o : Bool} {a : Int} {v : Value} (h : Blk W b o a v) : W.cell? ⟨b, 0, none⟩ = some (.bool o) := by unfold Blk at h; simp [World.cell?, h]
theorem Blk.c1 {W : World} {b : Nat} {o : Bool} {a : Int} {v : Value} (h : Blk W b o a v) : W.cell? ⟨b, 1, none⟩ = some (.int .i64 a) := by unfold Blk at h; simp [World.cell?, h]
theorem Blk.c2 {W : World} {b : Nat} {o : Bool} {a : Int} {v : Value} (h : Blk W b o a v) : W.cell? ⟨b, 2, none⟩ = some v := by unfold Blk at h; simp [World.cell?, h]
theorem Blk.lt {W : World} {b : Nat} {o : Bool} {a : Int} {v : Value} (h : Blk W b o a v) : b < W.heap.size := (Array.getElem?_eq_some_iff.1 h).1
theorem Blk.kb {W W' : World} {b B : Nat} {o : Bool} {a : Int} {v : Value} (h : Blk W b o a v) (hk : Kb B W W') (hB : b ≠ B) : Blk W' b o a v := (hk.block b h.lt hB).trans h
theorem Kb.new (B : Nat) (W : World) (x : Obj) : Kb B W (W.alloc x) := Kb.of_below ((Below.refl _ W).alloc (Nat.le_refl _) _) (Nat.le_refl _)
theorem size_new (W : World) (x : Obj) : (W.alloc x).heap.size = W.heap.size + 1 := by simp
set_option maxRecDepth 100000 in
set_option maxHeartbeats 4000000 in
theorem law_at (T : ByteArray) (hT : (T.size : Int) ≤ 1048576) (o : Bool) (a : Int) (n : Nat) (A : Nat → Tv) (hn : n ≤ 65536)
    (H5 : ∀ w, Calls Tryd.prog 5 #[.string T] w fun e w' => Below w.heap.size w w' ∧ ∃ v, e = .returned (.agg #[.bool o, .int .i64 a, v]) ∧ Own w' w.heap.size v n A)
    (H6 : ∀ w, Gd w → Calls Tryd.prog 6 #[.string T] w fun e w' => Rd.Kept w w' ∧ ∃ v, e = .returned (.agg #[.bool o, .int .i64 a, v]) ∧ Own w' w.heap.size v n A) (w : World) (hg : Gd w) :
    Calls Tryd.prog 3 #[.string T] w fun e w' => e = .returned (.bool true) ∧ Rd.Kept w w' := by
  have H5w := H5 w
  have HH : Hid (∀ w, Gd w → Calls Tryd.prog 6 #[.string T] w fun e w' => Rd.Kept w w' ∧ ∃ v, e = .returned (.agg #[.bool o, .int .i64 a, v]) ∧ Own w' w.heap.size v n A) := H6
  have HG : Hid (Gd w) := hg
  have HN : Hid (n ≤ 65536) := hn
  have hk0 : (0 : Int) ≤ 1 + 6 * (n : Int) := by omega
  clear H5 H6 hg hn
  go_enter Tryd.func3, Tryd.ntmps3
  go_wp2_with fail
  refine H5w.mono ?_
  rintro e w1 ⟨hb1, v1, rfl, g1, hr1, hf1⟩
  obtain ⟨p1, k1, hv1⟩ : ∃ p c, v1 = .slice p n c := by obtain ⟨p, c, h, _⟩ := hr1; exact ⟨p, c, h⟩
  subst hv1
  obtain ⟨W1, hW1, HB1, HK1, HR1, HZ1⟩ : ∃ W1, W1 = w1.alloc (.cells #[.bool o, .int .i64 a, .slice p1 n k1] 24) ∧ Hid (Blk W1 w1.heap.size o a (.slice p1 n k1)) ∧ Hid (∀ B, Kb B w W1) ∧ Hid (RowC W1 (.slice p1 n k1) g1 n A) ∧ Hid (W1.heap.size = w1.heap.size + 1) :=
    ⟨_, rfl, Blk.new _ _ _ _, (fun B => (Kb.of_below hb1 (Nat.le_refl _)).trans (Kb.new B _ _) : ∀ B, Kb B w _), hr1.kb (Kb.new (g1 + 1) _ _) (fun _ => by omega), size_new _ _⟩
  have HG1 : Gd W1 := (show Gd w from HG).kb (B := w.heap.size) HG.size (HK1 w.heap.size)
  have h6 := (show ∀ w, Gd w → Calls Tryd.prog 6 #[.string T] w fun e w' => Rd.Kept w w' ∧ ∃ v, e = .returned (.agg #[.bool o, .int .i64 a, v]) ∧ Own w' w.heap.size v n A from HH) W1 HG1
  clear H5w hb1 hr1 hf1 HG1
  go_wp2_with fail
  rw [← hW1]
  clear hW1
  refine h6.mono ?_
  rintro e w2 ⟨hk2, v2, rfl, g2, hr2, hf2⟩
  obtain ⟨p2, k2, hv2⟩ : ∃ p c, v2 = .slice p n c := by obtain ⟨p, c, h, _⟩ := hr2; exact ⟨p, c, h⟩
  subst hv2
  have HS12 : Hid (w1.heap.size < w2.heap.size) := by
    have := (Kb.of_kept (B := 0) hk2).size
    have h1 := (show W1.heap.size = w1.heap.size + 1 from HZ1)
    show w1.heap.size < w2.heap.size
    omega
  obtain ⟨W2, hW2, HB2, HK2, HR2, HF2, HZ2⟩ : ∃ W2, W2 = w2.alloc (.cells #[.bool o, .int .i64 a, .slice p2 n k2] 24) ∧ Hid (Blk W2 w2.heap.size o a (.slice p2 n k2)) ∧ Hid (∀ B, Kb B W1 W2) ∧ Hid (RowC W2 (.slice p2 n k2) g2 n A) ∧ Hid (0 < n → W1.heap.size ≤ g2 ∧ g2 < w2.heap.size ∧ ∀ j, W2.frozen? ⟨g2, j, none⟩ = false) ∧ Hid (W2.heap.size = w2.heap.size + 1) := by
    refine ⟨_, rfl, Blk.new _ _ _ _, (fun B => (Kb.of_kept hk2).trans (Kb.new B _ _) : ∀ B, Kb B W1 _), hr2.kb (Kb.new (g2 + 1) _ _) (fun _ => by omega), (fun h0 => ⟨(hf2 h0).1, hr2.lt h0, fun j => ?_⟩ : 0 < n → _), size_new _ _⟩
    rw [World.frozen?_of_block ((Kb.new (g2 + 1) w2 _).block g2 (hr2.lt h0) (by omega))]
    exact (hf2 h0).2 j
  clear h6 hk2 hr2 hf2
  have hQ1 : Blk W2 w1.heap.size o a (.slice p1 n k1) := (show Blk W1 w1.heap.size o a (.slice p1 n k1) from HB1).kb (HK2 (w1.heap.size + 1)) (by omega)
  have q10 := hQ1.c0
  have q11 := hQ1.c1
  have q12 := hQ1.c2
  have q20 := HB2.c0
  have q21 := HB2.c1
  have q22 := HB2.c2
  have hrA : RowC W2 (.slice p1 n k1) g1 n A := (show RowC W1 (.slice p1 n k1) g1 n A from HR1).kb (HK2 (g1 + 1)) (fun _ => by omega)
  have h7 := eq_scan o a W2 (show RowC W2 (.slice p2 n k2) g2 n A from HR2) hrA HN
  clear hQ1 hrA
  go_upto_region 5 with fail
  rw [← hW2]
  clear hW2
  go_wp2_with fail
  refine h7.mono ?_
  rintro e w3 ⟨rfl, hb3⟩
  have hQ2 : Blk w3 w2.heap.size o a (.slice p2 n k2) := (show Blk W2 w2.heap.size o a (.slice p2 n k2) from HB2).kb (Kb.of_below hb3 (Nat.le_refl _) : Kb (w2.heap.size + 1) W2 w3) (by omega)
  have hR3 : RowC w3 (.slice p2 n k2) g2 n A := (show RowC W2 (.slice p2 n k2) g2 n A from HR2).kb (Kb.of_below hb3 (Nat.le_refl _) : Kb (g2 + 1) W2 w3) (fun _ => by omega)
  have h8 := mark_scan o a w3 hR3 (fun h0 j => by rw [World.frozen?_of_block (hb3.block g2 ((show RowC W2 (.slice p2 n k2) g2 n A from HR2).lt h0))]; exact (HF2 h0).2.2 j) HN
  have HB3 : Hid (Below W2.heap.size W2 w3 ∧ Blk w3 w2.heap.size o a (.slice p2 n k2)) := (⟨hb3, hQ2⟩ : _ ∧ _)
  clear h7 hb3 q10 q11 q12 q20 q21 q22
  have q20 := hQ2.c0
  have q21 := hQ2.c1
  have q22 := hQ2.c2
  clear hQ2 hR3
  go_wp2_with fail
  refine h8.mono ?_
  rintro e w4 ⟨rfl, hk4, hz4, hr4⟩
  obtain ⟨G, hG0, hG1, hG2⟩ : ∃ G, Kb G w3 w4 ∧ W1.heap.size ≤ G ∧ G ≠ w2.heap.size := by
    by_cases h0 : n = 0
    · have h2 := (HK2 0).size
      have h1 := (show W2.heap.size = w2.heap.size + 1 from HZ2)
      exact ⟨W2.heap.size, hz4 h0 _, h2, by omega⟩
    · have := (show 0 < n → W1.heap.size ≤ g2 ∧ g2 < w2.heap.size ∧ _ from HF2) (by omega)
      exact ⟨g2, hk4, this.1, by omega⟩
  have HK4 : Hid (Kb G W2 w4 ∧ W1.heap.size ≤ G ∧ G ≠ w2.heap.size) := (⟨(Kb.of_below HB3.1 (Nat.le_refl _)).trans hG0, hG1, hG2⟩ : _ ∧ _ ∧ _)
  have hQ4 : Blk w4 w2.heap.size o a (.slice p2 n k2) := (show Blk w3 w2.heap.size o a (.slice p2 n k2) from HB3.2).kb hG0 hG2.symm
  have h9 := held_scan o a w4 hr4 HN
  have HR4 : Hid (RowC w4 (.slice p2 n k2) g2 n mkT) := hr4
  have HQ4 : Hid (Blk w4 w2.heap.size o a (.slice p2 n k2)) := hQ4
  clear h8 q20 q21 q22 hk4 hz4 hr4 hG0 hG1 hG2 HB3
  have q20 := hQ4.c0
  have q21 := hQ4.c1
  have q22 := hQ4.c2
  clear hQ4
  go_wp2_with fail
  refine h9.mono ?_
  rintro e w5 ⟨rfl, hb5⟩
  have HK5 : Hid (∀ B, Kb B w4 w5) := (fun B => Kb.of_below hb5 (Nat.le_refl _) : ∀ B, Kb B w4 w5)
  have hGd5 : Gd w5 := by
    have h8 : 8 ≤ G := by
      have := (HK1 0).size
      have := HG.size
      have := HK4.2.1
      omega
    exact (show Gd w from HG).kb h8 ((((HK1 G).trans (HK2 G)).trans HK4.1).trans (HK5 G))
  have h6 := (show ∀ w, Gd w → Calls Tryd.prog 6 #[.string T] w fun e w' => Rd.Kept w w' ∧ ∃ v, e = .returned (.agg #[.bool o, .int .i64 a, v]) ∧ Own w' w.heap.size v n A from HH) w5 hGd5
  clear h9 hb5 q20 q21 q22 hGd5
  go_wp2_with fail
  refine h6.mono ?_
  rintro e w6 ⟨hk6, v3, rfl, g3, hr3, hf3⟩
  obtain ⟨p3, k3, hv3⟩ : ∃ p c, v3 = .slice p n c := by obtain ⟨p, c, h, _⟩ := hr3; exact ⟨p, c, h⟩
  subst hv3
  obtain ⟨W6, hW6, HB6, HK6, HR6⟩ : ∃ W6, W6 = w6.alloc (.cells #[.bool o, .int .i64 a, .slice p3 n k3] 24) ∧ Hid (Blk W6 w6.heap.size o a (.slice p3 n k3)) ∧ Hid (∀ B, Kb B w4 W6) ∧ Hid (RowC W6 (.slice p3 n k3) g3 n A) :=
    ⟨_, rfl, Blk.new _ _ _ _, (fun B => ((HK5 B).trans (Kb.of_kept hk6)).trans (Kb.new B _ _) : ∀ B, Kb B w4 _), hr3.kb (Kb.new (g3 + 1) _ _) (fun _ => by omega)⟩
  have hlt1 : w1.heap.size < G := by
    have h1 := (show W1.heap.size = w1.heap.size + 1 from HZ1)
    have h2 := HK4.2.1
    omega
  have HKW : Hid (Kb G W1 W6) := ((HK2 G).trans HK4.1).trans (HK6 G)
  have hQ1 : Blk W6 w1.heap.size o a (.slice p1 n k1) := (show Blk W1 w1.heap.size o a (.slice p1 n k1) from HB1).kb HKW (by omega)
  have q10 := hQ1.c0
  have q11 := hQ1.c1
  have q12 := hQ1.c2
  have q30 := HB6.c0
  have q31 := HB6.c1
  have q32 := HB6.c2
  have hrA : RowC W6 (.slice p1 n k1) g1 n A := (show RowC W1 (.slice p1 n k1) g1 n A from HR1).kb HKW (fun h0 => by
    have := (show RowC W1 (.slice p1 n k1) g1 n A from HR1).lt h0
    have := HK4.2.1
    omega)
  have h7 := eq_scan o a W6 (show RowC W6 (.slice p3 n k3) g3 n A from HR6) hrA HN
  clear h6 hk6 hr3 hf3 hQ1 hrA hlt1
  go_upto_region 16 with fail
  rw [← hW6]
  clear hW6
  go_wp2_with fail
  refine h7.mono ?_
  rintro e w7 ⟨rfl, hb7⟩
  have HK7 : Hid (∀ B, Kb B w4 w7) := (fun B => (HK6 B).trans (Kb.of_below hb7 (Nat.le_refl _)) : ∀ B, Kb B w4 w7)
  have hQ7 : Blk w7 w2.heap.size o a (.slice p2 n k2) := (show Blk w4 w2.heap.size o a (.slice p2 n k2) from HQ4).kb (HK7 (w2.heap.size + 1)) (by omega)
  have hR7 : RowC w7 (.slice p2 n k2) g2 n mkT := (show RowC w4 (.slice p2 n k2) g2 n mkT from HR4).kb (HK7 (g2 + 1)) (fun _ => by omega)
  have h9 := held_scan o a w7 hR7 HN
  clear h7 q10 q11 q12 q30 q31 q32 hb7 hR7
  have q20 := hQ7.c0
  have q21 := hQ7.c1
  have q22 := hQ7.c2
  clear hQ7
  go_wp2_with fail
  refine h9.mono ?_
  rintro e w8 ⟨rfl, hb8⟩
  have HEND : Hid (Rd.Kept w w8) := by
    have h1 := (HK1 0).size
    have h2 := HK4.2.1
    exact Kb.kept (B := G) (((((HK1 G).trans (HK2 G)).trans HK4.1).trans (HK7 G)).trans (Kb.of_below hb8 (Nat.le_refl _))) (by omega)
  clear h9 q20 q21 q22 hb8
  go_wp2_with fail
  go_ret
  exact ⟨rfl, HEND⟩
end Go.Proofs.YtogenhnonjkanaaDoor
namespace Go.Proofs.YtogenhnonjkanaaDoor
open Go.ChangeShapes Go.WideShapes Go.ChangeAt Go.RowKit
set_option linter.unusedVariables false
theorem run_len {L : List UInt8} {tk : Nat → Tk} (ok : TkOk L tk) {p : Nat} {l : Int} {xs : List (Nat × Int)} {e : Nat} {st : Bool} (h : Run L tk p l xs e st) : p ≤ L.length → xs.length + p ≤ L.length := by
  induction h with
  | fin p l h => intro hp; simp; omega
  | bad p l h hk => intro hp; simp; omega
  | step p l ts e st h hk hr ih =>
    intro hp
    have h1 := ok.lt p h hk
    have h2 := ok.le p h
    have h3 := bl_le L _ h2
    have h4 := bl_ge L (tk p).to
    have := ih h3
    simp
    omega
set_option maxRecDepth 100000 in
set_option maxHeartbeats 4000000 in
theorem spec_big (T : ByteArray) (h : (65536 : Int) < (T.size : Int)) (w : World) : Calls Tryd.prog 5 #[.string T] w fun e w' => Below w.heap.size w w' ∧ e = .returned (.agg #[.bool false, .int .i64 65536, .slice none 0 0]) := by
  go_enter Tryd.func5, Tryd.ntmps5
  go_wp2_with fail
  refine bodyPost_ret (by simp [results, Tryd.results5, go_sem]; rfl) rfl ?_
  exact ⟨(Below.refl _ w).alloc (Nat.le_refl _) _, rfl⟩
set_option maxRecDepth 100000 in
set_option maxHeartbeats 4000000 in
theorem impl_big (T : ByteArray) (h : (65536 : Int) < (T.size : Int)) (w : World) : Calls Tryd.prog 6 #[.string T] w fun e w' => Rd.Kept w w' ∧ e = .returned (.agg #[.bool false, .int .i64 65536, .slice none 0 0]) := by
  refine (callsIn_wide (n := 3)).1 ?_
  refine callsIn_of_wp_marks Tryd.func6 rfl trivial ?_ rfl
  simp only [Tryd.ntmps6, List.size_toArray, List.length_cons, List.length_nil, Nat.reduceAdd, Nat.reduceSub, Array.replicate_succ, Array.replicate_zero, List.push_toArray, List.append_toArray, List.nil_append, List.cons_append]
  gi_wp2_with fail
  refine ⟨_, by simp [results, Tryd.results6, go_sem]; rfl, ?_⟩
  exact ⟨Kb.kept (B := w.heap.size) (Kb.new _ _ _) (Nat.le_refl _), rfl⟩
set_option maxRecDepth 100000 in
set_option maxHeartbeats 4000000 in
theorem law_huge (T : ByteArray) (h : (1048576 : Int) < (T.size : Int)) (w : World) : Calls Tryd.prog 3 #[.string T] w fun e w' => e = .returned (.bool true) ∧ Rd.Kept w w' := by
  go_enter Tryd.func3, Tryd.ntmps3
  go_wp2_with fail
  go_ret
  exact ⟨rfl, Rd.Kept.refl _⟩
theorem law_scan (T : ByteArray) (w : World) (hg : Gd w) : Calls Tryd.prog 3 #[.string T] w fun e w' => e = .returned (.bool true) ∧ Rd.Kept w w' := by
  by_cases h1 : (1048576 : Int) < (T.size : Int)
  · exact law_huge T h1 w
  · by_cases h2 : (65536 : Int) < (T.size : Int)
    · exact law_at T (by omega) false 65536 0 mkT (by omega)
        (fun w => (spec_big T h2 w).mono fun e w' hh => ⟨hh.1, _, hh.2, own_nil _ _ _⟩)
        (fun w _ => (impl_big T h2 w).mono fun e w' hh => ⟨hh.1, _, hh.2, own_nil _ _ _⟩) w hg
    · obtain ⟨L, hT⟩ : ∃ L, T.data.toList = L := ⟨_, rfl⟩
      have hs : T.size = L.length := by rw [← hT]; simp
      obtain ⟨tk, htk⟩ := tk_any T L
      have ok := tko_ok htk
      obtain ⟨xs, e, st, hrun⟩ := run_any ok L.length (bl L 0) 1 (bl_le L 0 (Nat.zero_le _)) (by omega)
      have hxl : xs.length ≤ 65536 := by have := run_len ok hrun (bl_le L 0 (Nat.zero_le _)); omega
      have h5 := fun w => spec_scan T L hT (by omega) tk ok xs e st hrun (tko_spec hT (by omega) htk) hxl w
      have h6 := fun w (hg : Gd w) => impl_scan T L hT (by omega) tk ok xs e st hrun w hg (fun B hB => tko_impl hT (by omega) hB htk) hxl
      cases st with
      | true =>
        exact law_at T (by omega) false e 0 mkT (by omega)
          (fun w => (h5 w).mono fun en w' hh => ⟨hh.1, .slice none 0 0, by obtain ⟨v, hv, _⟩ := hh.2; exact hv, own_nil _ _ _⟩)
          (fun w hg => (h6 w hg).mono fun en w' hh => ⟨hh.1, .slice none 0 0, by obtain ⟨v, hv, _⟩ := hh.2; exact hv, own_nil _ _ _⟩) w hg
      | false =>
        exact law_at T (by omega) true 0 xs.length (tvs tk xs) hxl
          (fun w => (h5 w).mono fun en w' hh => ⟨hh.1, by obtain ⟨v, hv, ho⟩ := hh.2; exact ⟨v, hv, own_row (ho rfl)⟩⟩)
          (fun w hg => (h6 w hg).mono fun en w' hh => ⟨hh.1, by obtain ⟨v, hv, ho⟩ := hh.2; exact ⟨v, hv, own_row (ho rfl)⟩⟩) w hg
end Go.Proofs.YtogenhnonjkanaaDoor
