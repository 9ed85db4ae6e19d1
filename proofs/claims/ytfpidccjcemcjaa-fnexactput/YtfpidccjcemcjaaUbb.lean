import Derived.Test.YtfpidccjcemcjaaUba
namespace Go.Proofs.Ytfpidccjcemcjaa
open Go.ChangeShapes Go.WideShapes Go.ChangeAt Go.RowKit
set_option linter.unusedVariables false
set_option maxRecDepth 100000
set_option maxHeartbeats 4000000 in
theorem to_pair (p : Pv) (w : World) : Calls Try.prog 65 #[pv p] w fun e w' => e = .returned (pv p) ∧ Grown w w' := by
  obtain ⟨⟨k, m, g, x, r⟩, ⟨k2, m2, g2, x2, r2⟩, t⟩ := p
  unfold pv
  dsimp only
  have hst : ∀ (a : Addr) (n : Nat) (m : Mode) (w : World), (store a (.float .f64 n) m).run Try.prog w = stored Try.prog w a (.float .f64 n) m := fun a n m w => run_store _ _ _ _ _ rfl
  go_enter Try.func65, Try.ntmps65
  go_wp2_with go_in
  first
    | (go_ret; exact ⟨rfl, by go_grown⟩)
    | (refine bodyPost_ret (by simp [results, Try.results65, go_sem]; rfl) rfl ?_; exact ⟨rfl, by go_grown⟩)
set_option maxHeartbeats 4000000 in
theorem eq_pair (p : Pv) (ha : p.a.g < 18446744073709551616) (hb : p.b.g < 18446744073709551616) (w : World) : Calls Try.prog 55 #[pv p, pv p] w fun e w' => e = .returned (.bool true) ∧ Grown w w' := by
  have HA := fun w => eq_val p.a ha w
  have HB := fun w => eq_val p.b hb w
  obtain ⟨⟨k, m, g, x, r⟩, ⟨k2, m2, g2, x2, r2⟩, t⟩ := p
  unfold pv
  unfold vv at HA HB
  dsimp only at HA HB ⊢
  have h1 : (t != t) = false := by simp
  clear ha hb
  go_enter Try.func55, Try.ntmps55
  go_wp2_with fail
  refine (HA _).mono ?_
  rintro e w1 ⟨rfl, g1⟩
  have G1 : Hid (Grown w w1) := Grown.trans (by go_grown) g1
  obtain ⟨c0, c1, c2, c3, c4, c5, c6, c7, c8, c9, c10⟩ := ((Pb.new w ⟨⟨k, m, g, x, r⟩, ⟨k2, m2, g2, x2, r2⟩, t⟩ 51).kq (.of_grown (Grown.alloc (Grown.refl _) #[.int .i64 k, .int .i64 m, .float .f64 g, .string x, .int .i64 r, .int .i64 k2, .int .i64 m2, .float .f64 g2, .string x2, .int .i64 r2, .int .i64 t] 51))).kq (.of_grown g1)
  obtain ⟨d0, d1, d2, d3, d4, d5, d6, d7, d8, d9, d10⟩ := (Pb.new (w.alloc (.cells #[.int .i64 k, .int .i64 m, .float .f64 g, .string x, .int .i64 r, .int .i64 k2, .int .i64 m2, .float .f64 g2, .string x2, .int .i64 r2, .int .i64 t] 51)) ⟨⟨k, m, g, x, r⟩, ⟨k2, m2, g2, x2, r2⟩, t⟩ 51).kq (.of_grown g1)
  rw [World.size_alloc] at d0 d1 d2 d3 d4 d5 d6 d7 d8 d9 d10
  clear g1
  dsimp only at c0 d0 c1 d1 c2 d2 c3 d3 c4 d4 c5 d5 c6 d6 c7 d7 c8 d8 c9 d9 c10 d10
  go_wp2_with fail
  refine (HB _).mono ?_
  rintro e w2 ⟨rfl, g2'⟩
  have G2 : Hid (Grown w w2) := Grown.trans G1 g2'
  have cX : w2.cell? ⟨w.heap.size, 10, none⟩ = some (.int .i64 t) := (Kq.of_grown g2').cell c10
  have dX : w2.cell? ⟨w.heap.size + 1, 10, none⟩ = some (.int .i64 t) := (Kq.of_grown g2').cell d10
  clear g2' G1 c0 d0 c1 d1 c2 d2 c3 d3 c4 d4 c5 d5 c6 d6 c7 d7 c8 d8 c9 d9 c10 d10
  go_wp2_with fail
  go_ret
  exact ⟨rfl, G2⟩
/-- a pair of nothing -/
def pz : Pv := ⟨⟨0, 0, 0, ⟨#[]⟩, 0⟩, ⟨0, 0, 0, ⟨#[]⟩, 0⟩, 0⟩
def z11 : Value := .agg #[.int .i64 0, .int .i64 0, .float .f64 0, .string ⟨#[]⟩, .int .i64 0, .int .i64 0, .int .i64 0, .float .f64 0, .string ⟨#[]⟩, .int .i64 0, .int .i64 0]
theorem z11c : z11.cells = #[.int .i64 0, .int .i64 0, .float .f64 0, .string ⟨#[]⟩, .int .i64 0, .int .i64 0, .int .i64 0, .float .f64 0, .string ⟨#[]⟩, .int .i64 0, .int .i64 0] := by rfl
theorem made11 (w : World) (e n : Nat) (j c : Nat) (hj : j < n) (hc : c < 11) : (w.alloc (.cells (madeCells z11.cells (n * 11)) e)).cell? ⟨w.heap.size, j * 11 + c, none⟩ = z11.cells[c]? := by
  have hs : z11.cells.size = 11 := by rw [z11c]; rfl
  have hb : j * 11 + c < n * 11 := by omega
  have hg : (madeCells z11.cells (n * 11))[j * 11 + c]? = z11.cells[c]? := by
    have hm : (j * 11 + c) % 11 = c := by omega
    simp [madeCells, hs, hb, hm]
    rw [getElem?_pos z11.cells c (by omega), getElem!_pos z11.cells c (by omega)]
  rw [World.cell?_alloc_at _ _ _ _ rfl]
  exact hg
/-- a pair laid down in its eleven cells -/
def s11 (W : World) (g o : Nat) (p : Pv) : World :=
  ((((((((((W.setCell ⟨g, o, none⟩ (.int .i64 p.a.k)).setCell ⟨g, o + 1, none⟩ (.int .i64 p.a.m)).setCell ⟨g, o + 2, none⟩ (.float .f64 p.a.g)).setCell ⟨g, o + 3, none⟩ (.string p.a.x)).setCell ⟨g, o + 4, none⟩ (.int .i64 p.a.r)).setCell ⟨g, o + 5, none⟩ (.int .i64 p.b.k)).setCell ⟨g, o + 6, none⟩ (.int .i64 p.b.m)).setCell ⟨g, o + 7, none⟩ (.float .f64 p.b.g)).setCell ⟨g, o + 8, none⟩ (.string p.b.x)).setCell ⟨g, o + 9, none⟩ (.int .i64 p.b.r)).setCell ⟨g, o + 10, none⟩ (.int .i64 p.t)
theorem s11_size (W : World) (g o : Nat) (p : Pv) : (s11 W g o p).heap.size = W.heap.size := by
  unfold s11
  simp
theorem set_os (W : World) (a : Addr) (v : Value) : (W.setCell a v).os = W.os := rfl
theorem set_output (W : World) (a : Addr) (v : Value) : (W.setCell a v).output = W.output := rfl
theorem s11_os (W : World) (g o : Nat) (p : Pv) : (s11 W g o p).os = W.os ∧ (s11 W g o p).output = W.output := by
  unfold s11
  constructor
  · iterate 11 rw [set_os]
  · iterate 11 rw [set_output]
theorem s11_block (W : World) (g o : Nat) (p : Pv) (b : Nat) (h : b ≠ g) : (s11 W g o p).heap[b]? = W.heap[b]? := by
  unfold s11
  repeat rw [Below.heap_setCell _ _ _ _ h]
theorem s11_fz (W : World) (g o : Nat) (p : Pv) (b j : Nat) : (s11 W g o p).frozen? ⟨b, j, none⟩ = W.frozen? ⟨b, j, none⟩ := by
  unfold s11
  simp
theorem s11_far (W : World) (g o : Nat) (p : Pv) (j : Nat) (h : j < o ∨ o + 11 ≤ j) : (s11 W g o p).cell? ⟨g, j, none⟩ = W.cell? ⟨g, j, none⟩ := by
  unfold s11
  repeat rw [set_ne _ _ _ _ _ (by omega)]
theorem s11_cp {W : World} {g o : Nat} {q : Pv} (h : Cp W ⟨g, o, none⟩ q) (p : Pv) : Cp (s11 W g o p) ⟨g, o, none⟩ p := by
  obtain ⟨h0, h1, h2, h3, h4, h5, h6, h7, h8, h9, h10⟩ := h
  dsimp only at h1 h2 h3 h4 h5 h6 h7 h8 h9 h10
  unfold s11
  refine ⟨?_, ?_, ?_, ?_, ?_, ?_, ?_, ?_, ?_, ?_, ?_⟩ <;> try dsimp only
  · rw [set_ne _ _ _ _ _ (by omega), set_ne _ _ _ _ _ (by omega), set_ne _ _ _ _ _ (by omega), set_ne _ _ _ _ _ (by omega), set_ne _ _ _ _ _ (by omega), set_ne _ _ _ _ _ (by omega), set_ne _ _ _ _ _ (by omega), set_ne _ _ _ _ _ (by omega), set_ne _ _ _ _ _ (by omega), set_ne _ _ _ _ _ (by omega)]
    exact set_eq _ _ _ _ _ (by exact h0)
  · rw [set_ne _ _ _ _ _ (by omega), set_ne _ _ _ _ _ (by omega), set_ne _ _ _ _ _ (by omega), set_ne _ _ _ _ _ (by omega), set_ne _ _ _ _ _ (by omega), set_ne _ _ _ _ _ (by omega), set_ne _ _ _ _ _ (by omega), set_ne _ _ _ _ _ (by omega), set_ne _ _ _ _ _ (by omega)]
    exact set_eq _ _ _ _ _ (by rw [set_ne _ _ _ _ _ (by omega)]; exact h1)
  · rw [set_ne _ _ _ _ _ (by omega), set_ne _ _ _ _ _ (by omega), set_ne _ _ _ _ _ (by omega), set_ne _ _ _ _ _ (by omega), set_ne _ _ _ _ _ (by omega), set_ne _ _ _ _ _ (by omega), set_ne _ _ _ _ _ (by omega), set_ne _ _ _ _ _ (by omega)]
    exact set_eq _ _ _ _ _ (by rw [set_ne _ _ _ _ _ (by omega), set_ne _ _ _ _ _ (by omega)]; exact h2)
  · rw [set_ne _ _ _ _ _ (by omega), set_ne _ _ _ _ _ (by omega), set_ne _ _ _ _ _ (by omega), set_ne _ _ _ _ _ (by omega), set_ne _ _ _ _ _ (by omega), set_ne _ _ _ _ _ (by omega), set_ne _ _ _ _ _ (by omega)]
    exact set_eq _ _ _ _ _ (by rw [set_ne _ _ _ _ _ (by omega), set_ne _ _ _ _ _ (by omega), set_ne _ _ _ _ _ (by omega)]; exact h3)
  · rw [set_ne _ _ _ _ _ (by omega), set_ne _ _ _ _ _ (by omega), set_ne _ _ _ _ _ (by omega), set_ne _ _ _ _ _ (by omega), set_ne _ _ _ _ _ (by omega), set_ne _ _ _ _ _ (by omega)]
    exact set_eq _ _ _ _ _ (by rw [set_ne _ _ _ _ _ (by omega), set_ne _ _ _ _ _ (by omega), set_ne _ _ _ _ _ (by omega), set_ne _ _ _ _ _ (by omega)]; exact h4)
  · rw [set_ne _ _ _ _ _ (by omega), set_ne _ _ _ _ _ (by omega), set_ne _ _ _ _ _ (by omega), set_ne _ _ _ _ _ (by omega), set_ne _ _ _ _ _ (by omega)]
    exact set_eq _ _ _ _ _ (by rw [set_ne _ _ _ _ _ (by omega), set_ne _ _ _ _ _ (by omega), set_ne _ _ _ _ _ (by omega), set_ne _ _ _ _ _ (by omega), set_ne _ _ _ _ _ (by omega)]; exact h5)
  · rw [set_ne _ _ _ _ _ (by omega), set_ne _ _ _ _ _ (by omega), set_ne _ _ _ _ _ (by omega), set_ne _ _ _ _ _ (by omega)]
    exact set_eq _ _ _ _ _ (by rw [set_ne _ _ _ _ _ (by omega), set_ne _ _ _ _ _ (by omega), set_ne _ _ _ _ _ (by omega), set_ne _ _ _ _ _ (by omega), set_ne _ _ _ _ _ (by omega), set_ne _ _ _ _ _ (by omega)]; exact h6)
  · rw [set_ne _ _ _ _ _ (by omega), set_ne _ _ _ _ _ (by omega), set_ne _ _ _ _ _ (by omega)]
    exact set_eq _ _ _ _ _ (by rw [set_ne _ _ _ _ _ (by omega), set_ne _ _ _ _ _ (by omega), set_ne _ _ _ _ _ (by omega), set_ne _ _ _ _ _ (by omega), set_ne _ _ _ _ _ (by omega), set_ne _ _ _ _ _ (by omega), set_ne _ _ _ _ _ (by omega)]; exact h7)
  · rw [set_ne _ _ _ _ _ (by omega), set_ne _ _ _ _ _ (by omega)]
    exact set_eq _ _ _ _ _ (by rw [set_ne _ _ _ _ _ (by omega), set_ne _ _ _ _ _ (by omega), set_ne _ _ _ _ _ (by omega), set_ne _ _ _ _ _ (by omega), set_ne _ _ _ _ _ (by omega), set_ne _ _ _ _ _ (by omega), set_ne _ _ _ _ _ (by omega), set_ne _ _ _ _ _ (by omega)]; exact h8)
  · rw [set_ne _ _ _ _ _ (by omega)]
    exact set_eq _ _ _ _ _ (by rw [set_ne _ _ _ _ _ (by omega), set_ne _ _ _ _ _ (by omega), set_ne _ _ _ _ _ (by omega), set_ne _ _ _ _ _ (by omega), set_ne _ _ _ _ _ (by omega), set_ne _ _ _ _ _ (by omega), set_ne _ _ _ _ _ (by omega), set_ne _ _ _ _ _ (by omega), set_ne _ _ _ _ _ (by omega)]; exact h9)
  · exact set_eq _ _ _ _ _ (by rw [set_ne _ _ _ _ _ (by omega), set_ne _ _ _ _ _ (by omega), set_ne _ _ _ _ _ (by omega), set_ne _ _ _ _ _ (by omega), set_ne _ _ _ _ _ (by omega), set_ne _ _ _ _ _ (by omega), set_ne _ _ _ _ _ (by omega), set_ne _ _ _ _ _ (by omega), set_ne _ _ _ _ _ (by omega), set_ne _ _ _ _ _ (by omega)]; exact h10)
/-- a row of pairs in a block of its own -/
structure OwnP (W : World) (v : Value) (g n : Nat) (F : Nat → Pv) : Prop where
  sl : ∃ pa cap, v = .slice pa n cap ∧ (0 < n → pa = some ⟨g, 0, none⟩ ∧ n ≤ cap)
  ce : ∀ i, i < n → Cp W ⟨g, i * 11, none⟩ (F i)
  fz : 0 < n → ∀ j, W.frozen? ⟨g, j, none⟩ = false
theorem Cp.lt {W : World} {b : Addr} {p : Pv} (h : Cp W b p) : b.block < W.heap.size := lt_of_cell' h.c0
theorem OwnP.kq {a w : World} {v : Value} {g n : Nat} {F : Nat → Pv} (h : OwnP a v g n F) (k : Kq a w) : OwnP w v g n F :=
  ⟨h.sl, fun i hi => (h.ce i hi).kq k, fun hn j => (k.frozen (h.ce 0 hn).lt).trans (h.fz hn j)⟩
theorem addr0 (g i : Nat) : (⟨g, 0, none⟩ : Addr).add i = ⟨g, i, none⟩ := by
  by_cases e : i = 0
  · subst e; rfl
  · simp [Addr.add, e]
theorem OwnP.row {W : World} {v : Value} {g n : Nat} {F : Nat → Pv} (h : OwnP W v g n F) : RowP W v n F := by
  obtain ⟨pa, cap, h1, h2⟩ := h.sl
  refine ⟨pa, cap, h1, fun hn => ⟨⟨g, 0, none⟩, (h2 hn).1, (h2 hn).2, fun i hi => ?_⟩⟩
  rw [addr0]
  exact h.ce i hi
/-- between two rounds of the copying: the first i pairs stand in block g -/
structure Tp (w1 : World) (g n : Nat) (F : Nat → Pv) (i : Nat) (W : World) : Prop where
  os : W.os = w1.os
  output : W.output = w1.output
  size : w1.heap.size ≤ W.heap.size
  block : ∀ b, b < w1.heap.size → b ≠ g → W.heap[b]? = w1.heap[b]?
  ce : ∀ j, j < i → Cp W ⟨g, j * 11, none⟩ (F j)
  rest : ∀ j, i ≤ j → j < n → Cp W ⟨g, j * 11, none⟩ pz
  fz : ∀ j, W.frozen? ⟨g, j, none⟩ = false
  gl : g < w1.heap.size
theorem Tp.kq {w1 W W' : World} {g n i : Nat} {F : Nat → Pv} (h : Tp w1 g n F i W) (k : Kq W W') : Tp w1 g n F i W' :=
  ⟨k.os.trans h.os, k.output.trans h.output, Nat.le_trans h.size k.size, fun b hb hn => (k.block b (Nat.lt_of_lt_of_le hb h.size)).trans (h.block b hb hn), fun j hj => (h.ce j hj).kq k, fun j h1 h2 => (h.rest j h1 h2).kq k, fun j => (k.frozen (Nat.lt_of_lt_of_le h.gl h.size)).trans (h.fz j), h.gl⟩
theorem Cp.far {W : World} {g i j : Nat} {p q : Pv} (h : Cp W ⟨g, j * 11, none⟩ q) (hij : j ≠ i) : Cp (s11 W g (i * 11) p) ⟨g, j * 11, none⟩ q := by
  obtain ⟨c0, c1, c2, c3, c4, c5, c6, c7, c8, c9, c10⟩ := h
  have e : ∀ c, c < 11 → (s11 W g (i * 11) p).cell? ⟨g, j * 11 + c, none⟩ = W.cell? ⟨g, j * 11 + c, none⟩ := fun c hc => s11_far _ _ _ _ _ (by omega)
  exact ⟨(e 0 (by omega)).trans c0, (e 1 (by omega)).trans c1, (e 2 (by omega)).trans c2, (e 3 (by omega)).trans c3, (e 4 (by omega)).trans c4, (e 5 (by omega)).trans c5, (e 6 (by omega)).trans c6, (e 7 (by omega)).trans c7, (e 8 (by omega)).trans c8, (e 9 (by omega)).trans c9, (e 10 (by omega)).trans c10⟩
theorem Tp.step {w1 W : World} {g n i : Nat} {F : Nat → Pv} (h : Tp w1 g n F i W) (hi : i < n) : Tp w1 g n F (i + 1) (s11 W g (i * 11) (F i)) := by
  refine ⟨(s11_os W g (i * 11) (F i)).1.trans h.os, (s11_os W g (i * 11) (F i)).2.trans h.output, by rw [s11_size]; exact h.size, fun b hb hn => (s11_block _ _ _ _ _ hn).trans (h.block b hb hn), fun j hj => ?_, fun j h1 h2 => (h.rest j (by omega) h2).far (by omega), fun j => (s11_fz _ _ _ _ _ _).trans (h.fz j), h.gl⟩
  by_cases e : j = i
  · subst e; exact s11_cp (h.rest j (Nat.le_refl _) hi) _
  · exact (h.ce j (by omega)).far e
end Go.Proofs.Ytfpidccjcemcjaa
