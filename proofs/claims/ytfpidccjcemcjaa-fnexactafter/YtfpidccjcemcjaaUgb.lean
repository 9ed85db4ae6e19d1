import Derived.Test.YtfpidccjcemcjaaUga
import Derived.Test.YtfpidccjcemcjaaUcd
namespace Go.Proofs.Ytfpidccjcemcjaa
open Go.ChangeShapes Go.WideShapes Go.ChangeAt Go.RowKit
set_option linter.unusedVariables false
set_option maxRecDepth 100000

/-- a pair that may be found, as a value -/
def fov (b : Bool) (p : Pv) : Value := .agg #[.bool b, .int .i64 p.a.k, .int .i64 p.a.m, .float .f64 p.a.g, .string p.a.x, .int .i64 p.a.r, .int .i64 p.b.k, .int .i64 p.b.m, .float .f64 p.b.g, .string p.b.x, .int .i64 p.b.r, .int .i64 p.t]
/-- the cells of an answer that is not yet written -/
structure Rf (W : World) (Z : Nat) : Prop where
  c0 : W.cell? ⟨Z, 0, none⟩ = some (.bool false)
  c1 : W.cell? ⟨Z, 1, none⟩ = some (.int .i64 0)
  c2 : W.cell? ⟨Z, 2, none⟩ = some (.int .i64 0)
  c3 : W.cell? ⟨Z, 3, none⟩ = some (.float .f64 0)
  c4 : W.cell? ⟨Z, 4, none⟩ = some (.string ⟨#[]⟩)
  c5 : W.cell? ⟨Z, 5, none⟩ = some (.int .i64 0)
  c6 : W.cell? ⟨Z, 6, none⟩ = some (.int .i64 0)
  c7 : W.cell? ⟨Z, 7, none⟩ = some (.int .i64 0)
  c8 : W.cell? ⟨Z, 8, none⟩ = some (.float .f64 0)
  c9 : W.cell? ⟨Z, 9, none⟩ = some (.string ⟨#[]⟩)
  c10 : W.cell? ⟨Z, 10, none⟩ = some (.int .i64 0)
  c11 : W.cell? ⟨Z, 11, none⟩ = some (.int .i64 0)
  fz : ∀ j, W.frozen? ⟨Z, j, none⟩ = false
/-- the cells of an answer -/
structure Fc (W : World) (Z : Nat) (b : Bool) (p : Pv) : Prop where
  c0 : W.cell? ⟨Z, 0, none⟩ = some (.bool b)
  c1 : W.cell? ⟨Z, 1, none⟩ = some (.int .i64 p.a.k)
  c2 : W.cell? ⟨Z, 2, none⟩ = some (.int .i64 p.a.m)
  c3 : W.cell? ⟨Z, 3, none⟩ = some (.float .f64 p.a.g)
  c4 : W.cell? ⟨Z, 4, none⟩ = some (.string p.a.x)
  c5 : W.cell? ⟨Z, 5, none⟩ = some (.int .i64 p.a.r)
  c6 : W.cell? ⟨Z, 6, none⟩ = some (.int .i64 p.b.k)
  c7 : W.cell? ⟨Z, 7, none⟩ = some (.int .i64 p.b.m)
  c8 : W.cell? ⟨Z, 8, none⟩ = some (.float .f64 p.b.g)
  c9 : W.cell? ⟨Z, 9, none⟩ = some (.string p.b.x)
  c10 : W.cell? ⟨Z, 10, none⟩ = some (.int .i64 p.b.r)
  c11 : W.cell? ⟨Z, 11, none⟩ = some (.int .i64 p.t)
theorem Rf.new (w : World) (t : TypeId) : Rf (w.alloc (.cells #[.bool false, .int .i64 0, .int .i64 0, .float .f64 0, .string ⟨#[]⟩, .int .i64 0, .int .i64 0, .int .i64 0, .float .f64 0, .string ⟨#[]⟩, .int .i64 0, .int .i64 0] t)) w.heap.size := by
  refine ⟨?_, ?_, ?_, ?_, ?_, ?_, ?_, ?_, ?_, ?_, ?_, ?_, fun j => World.frozen?_alloc_at _ _ _ _ rfl⟩ <;> (rw [World.cell?_alloc_at _ _ _ _ rfl]; rfl)
theorem Fc.new (w : World) (b : Bool) (p : Pv) (t : TypeId) : Fc (w.alloc (.cells #[.bool b, .int .i64 p.a.k, .int .i64 p.a.m, .float .f64 p.a.g, .string p.a.x, .int .i64 p.a.r, .int .i64 p.b.k, .int .i64 p.b.m, .float .f64 p.b.g, .string p.b.x, .int .i64 p.b.r, .int .i64 p.t] t)) w.heap.size b p := by
  constructor <;> (rw [World.cell?_alloc_at _ _ _ _ rfl]; rfl)
theorem Rf.kq {a w : World} {B : Nat} (h : Rf a B) (g : Kq a w) : Rf w B :=
  ⟨g.cell h.c0, g.cell h.c1, g.cell h.c2, g.cell h.c3, g.cell h.c4, g.cell h.c5, g.cell h.c6, g.cell h.c7, g.cell h.c8, g.cell h.c9, g.cell h.c10, g.cell h.c11, fun j => (g.frozen (lt_of_cell h.c0)).trans (h.fz j)⟩
theorem Fc.kq {a w : World} {B : Nat} {b : Bool} {p : Pv} (h : Fc a B b p) (g : Kq a w) : Fc w B b p :=
  ⟨g.cell h.c0, g.cell h.c1, g.cell h.c2, g.cell h.c3, g.cell h.c4, g.cell h.c5, g.cell h.c6, g.cell h.c7, g.cell h.c8, g.cell h.c9, g.cell h.c10, g.cell h.c11⟩
def s12 (W : World) (Z : Nat) (b : Bool) (p : Pv) : World := (((((((((((W.setCell ⟨Z, 0, none⟩ (.bool b)).setCell ⟨Z, 1, none⟩ (.int .i64 p.a.k)).setCell ⟨Z, 2, none⟩ (.int .i64 p.a.m)).setCell ⟨Z, 3, none⟩ (.float .f64 p.a.g)).setCell ⟨Z, 4, none⟩ (.string p.a.x)).setCell ⟨Z, 5, none⟩ (.int .i64 p.a.r)).setCell ⟨Z, 6, none⟩ (.int .i64 p.b.k)).setCell ⟨Z, 7, none⟩ (.int .i64 p.b.m)).setCell ⟨Z, 8, none⟩ (.float .f64 p.b.g)).setCell ⟨Z, 9, none⟩ (.string p.b.x)).setCell ⟨Z, 10, none⟩ (.int .i64 p.b.r)).setCell ⟨Z, 11, none⟩ (.int .i64 p.t)
theorem s12_kq {w W : World} {Z : Nat} (h : Kq w W) (hZ : w.heap.size ≤ Z) (b : Bool) (p : Pv) : Kq w (s12 W Z b p) := by
  unfold s12
  exact kq_set (kq_set (kq_set (kq_set (kq_set (kq_set (kq_set (kq_set (kq_set (kq_set (kq_set (kq_set h hZ) hZ) hZ) hZ) hZ) hZ) hZ) hZ) hZ) hZ) hZ) hZ
theorem s12_fc {W : World} {Z : Nat} (h : Rf W Z) (b : Bool) (p : Pv) : Fc (s12 W Z b p) Z b p := by
  obtain ⟨h0, h1, h2, h3, h4, h5, h6, h7, h8, h9, h10, h11, _⟩ := h
  unfold s12
  refine ⟨?_, ?_, ?_, ?_, ?_, ?_, ?_, ?_, ?_, ?_, ?_, ?_⟩
  · rw [set_ne _ _ _ _ _ (by decide), set_ne _ _ _ _ _ (by decide), set_ne _ _ _ _ _ (by decide), set_ne _ _ _ _ _ (by decide), set_ne _ _ _ _ _ (by decide), set_ne _ _ _ _ _ (by decide), set_ne _ _ _ _ _ (by decide), set_ne _ _ _ _ _ (by decide), set_ne _ _ _ _ _ (by decide), set_ne _ _ _ _ _ (by decide), set_ne _ _ _ _ _ (by decide)]
    exact set_eq _ _ _ _ _ (by exact h0)
  · rw [set_ne _ _ _ _ _ (by decide), set_ne _ _ _ _ _ (by decide), set_ne _ _ _ _ _ (by decide), set_ne _ _ _ _ _ (by decide), set_ne _ _ _ _ _ (by decide), set_ne _ _ _ _ _ (by decide), set_ne _ _ _ _ _ (by decide), set_ne _ _ _ _ _ (by decide), set_ne _ _ _ _ _ (by decide), set_ne _ _ _ _ _ (by decide)]
    exact set_eq _ _ _ _ _ (by rw [set_ne _ _ _ _ _ (by decide)]; exact h1)
  · rw [set_ne _ _ _ _ _ (by decide), set_ne _ _ _ _ _ (by decide), set_ne _ _ _ _ _ (by decide), set_ne _ _ _ _ _ (by decide), set_ne _ _ _ _ _ (by decide), set_ne _ _ _ _ _ (by decide), set_ne _ _ _ _ _ (by decide), set_ne _ _ _ _ _ (by decide), set_ne _ _ _ _ _ (by decide)]
    exact set_eq _ _ _ _ _ (by rw [set_ne _ _ _ _ _ (by decide), set_ne _ _ _ _ _ (by decide)]; exact h2)
  · rw [set_ne _ _ _ _ _ (by decide), set_ne _ _ _ _ _ (by decide), set_ne _ _ _ _ _ (by decide), set_ne _ _ _ _ _ (by decide), set_ne _ _ _ _ _ (by decide), set_ne _ _ _ _ _ (by decide), set_ne _ _ _ _ _ (by decide), set_ne _ _ _ _ _ (by decide)]
    exact set_eq _ _ _ _ _ (by rw [set_ne _ _ _ _ _ (by decide), set_ne _ _ _ _ _ (by decide), set_ne _ _ _ _ _ (by decide)]; exact h3)
  · rw [set_ne _ _ _ _ _ (by decide), set_ne _ _ _ _ _ (by decide), set_ne _ _ _ _ _ (by decide), set_ne _ _ _ _ _ (by decide), set_ne _ _ _ _ _ (by decide), set_ne _ _ _ _ _ (by decide), set_ne _ _ _ _ _ (by decide)]
    exact set_eq _ _ _ _ _ (by rw [set_ne _ _ _ _ _ (by decide), set_ne _ _ _ _ _ (by decide), set_ne _ _ _ _ _ (by decide), set_ne _ _ _ _ _ (by decide)]; exact h4)
  · rw [set_ne _ _ _ _ _ (by decide), set_ne _ _ _ _ _ (by decide), set_ne _ _ _ _ _ (by decide), set_ne _ _ _ _ _ (by decide), set_ne _ _ _ _ _ (by decide), set_ne _ _ _ _ _ (by decide)]
    exact set_eq _ _ _ _ _ (by rw [set_ne _ _ _ _ _ (by decide), set_ne _ _ _ _ _ (by decide), set_ne _ _ _ _ _ (by decide), set_ne _ _ _ _ _ (by decide), set_ne _ _ _ _ _ (by decide)]; exact h5)
  · rw [set_ne _ _ _ _ _ (by decide), set_ne _ _ _ _ _ (by decide), set_ne _ _ _ _ _ (by decide), set_ne _ _ _ _ _ (by decide), set_ne _ _ _ _ _ (by decide)]
    exact set_eq _ _ _ _ _ (by rw [set_ne _ _ _ _ _ (by decide), set_ne _ _ _ _ _ (by decide), set_ne _ _ _ _ _ (by decide), set_ne _ _ _ _ _ (by decide), set_ne _ _ _ _ _ (by decide), set_ne _ _ _ _ _ (by decide)]; exact h6)
  · rw [set_ne _ _ _ _ _ (by decide), set_ne _ _ _ _ _ (by decide), set_ne _ _ _ _ _ (by decide), set_ne _ _ _ _ _ (by decide)]
    exact set_eq _ _ _ _ _ (by rw [set_ne _ _ _ _ _ (by decide), set_ne _ _ _ _ _ (by decide), set_ne _ _ _ _ _ (by decide), set_ne _ _ _ _ _ (by decide), set_ne _ _ _ _ _ (by decide), set_ne _ _ _ _ _ (by decide), set_ne _ _ _ _ _ (by decide)]; exact h7)
  · rw [set_ne _ _ _ _ _ (by decide), set_ne _ _ _ _ _ (by decide), set_ne _ _ _ _ _ (by decide)]
    exact set_eq _ _ _ _ _ (by rw [set_ne _ _ _ _ _ (by decide), set_ne _ _ _ _ _ (by decide), set_ne _ _ _ _ _ (by decide), set_ne _ _ _ _ _ (by decide), set_ne _ _ _ _ _ (by decide), set_ne _ _ _ _ _ (by decide), set_ne _ _ _ _ _ (by decide), set_ne _ _ _ _ _ (by decide)]; exact h8)
  · rw [set_ne _ _ _ _ _ (by decide), set_ne _ _ _ _ _ (by decide)]
    exact set_eq _ _ _ _ _ (by rw [set_ne _ _ _ _ _ (by decide), set_ne _ _ _ _ _ (by decide), set_ne _ _ _ _ _ (by decide), set_ne _ _ _ _ _ (by decide), set_ne _ _ _ _ _ (by decide), set_ne _ _ _ _ _ (by decide), set_ne _ _ _ _ _ (by decide), set_ne _ _ _ _ _ (by decide), set_ne _ _ _ _ _ (by decide)]; exact h9)
  · rw [set_ne _ _ _ _ _ (by decide)]
    exact set_eq _ _ _ _ _ (by rw [set_ne _ _ _ _ _ (by decide), set_ne _ _ _ _ _ (by decide), set_ne _ _ _ _ _ (by decide), set_ne _ _ _ _ _ (by decide), set_ne _ _ _ _ _ (by decide), set_ne _ _ _ _ _ (by decide), set_ne _ _ _ _ _ (by decide), set_ne _ _ _ _ _ (by decide), set_ne _ _ _ _ _ (by decide), set_ne _ _ _ _ _ (by decide)]; exact h10)
  · exact set_eq _ _ _ _ _ (by rw [set_ne _ _ _ _ _ (by decide), set_ne _ _ _ _ _ (by decide), set_ne _ _ _ _ _ (by decide), set_ne _ _ _ _ _ (by decide), set_ne _ _ _ _ _ (by decide), set_ne _ _ _ _ _ (by decide), set_ne _ _ _ _ _ (by decide), set_ne _ _ _ _ _ (by decide), set_ne _ _ _ _ _ (by decide), set_ne _ _ _ _ _ (by decide), set_ne _ _ _ _ _ (by decide)]; exact h11)
set_option maxHeartbeats 4000000 in
theorem im_behind {w : World} {B M n : Nat} {F : Nat → Pv} {v : Value} {T : Int} (tt : Int) (W : World) (hL : Lg w B M (lsp F n) v T W) (ht : tok n F T) : Calls Try.prog 73 #[.pointer (some ⟨B, 0, none⟩), .int .i64 tt] W fun e w' => ∃ r : Nat, e = .returned (.int .i64 (r : Int)) ∧ Bh n F tt r ∧ Kq W w' := by
  obtain ⟨g, hO, hg⟩ := own_pairs hL.row
  obtain ⟨ad, ca, rfl, hsl⟩ := hO.sl
  obtain ⟨w2, hw2⟩ : ∃ w2, w2 = (W.alloc (.cells #[.pointer (some ⟨B, 0, none⟩)] 66)).alloc (.cells #[.int .i64 tt] 3) := ⟨_, rfl⟩
  obtain ⟨x0, x1, z2, k2⟩ := two_new W _ _ _ _ w2 hw2
  have h2 := k2.cell (cell_of hL.ob (j := 0) rfl)
  have HS : Hid (Calls Try.prog 82 #[.int .i64 (n : Int), .func (.func 83) #[] #[.pointer (some ⟨W.heap.size, 0, none⟩), .pointer (some ⟨W.heap.size + 1, 0, none⟩)]] w2 fun e w' => ∃ r : Nat, e = .returned (.int .i64 (r : Int)) ∧ Bh n F tt r ∧ Kq w2 w') := by
    refine im_search (F := F) (tt := tt) _ w2 ht.1 (tok_asc ht) (fun W' i q hi => ?_)
    obtain ⟨rfl, hcap⟩ := hsl (by omega)
    exact im_above W' (q.cell (cell_of x0 rfl)) (q.cell (cell_of x1 rfl)) (q.cell h2) (((hO.ce i hi).kq k2).kq q).c10 hi ht.1
  have HK : Hid (Kq W w2) := k2
  rw [hw2] at h2
  clear x0 x1 z2 k2 hL hO hg hsl ht
  go_enter Try.func73, Try.ntmps73
  go_wp2_with fail
  rw [← hw2]
  clear h2 hw2
  refine (show Calls Try.prog 82 #[.int .i64 (n : Int), .func (.func 83) #[] #[.pointer (some ⟨W.heap.size, 0, none⟩), .pointer (some ⟨W.heap.size + 1, 0, none⟩)]] w2 _ from HS).mono ?_
  rintro e w3 ⟨r, rfl, hb, k3⟩
  have HE : Hid (Bh n F tt r ∧ Kq W w3) := (⟨hb, Kq.trans HK k3⟩ : _ ∧ _)
  clear HS HK hb k3
  go_wp2_with fail
  go_ret
  exact ⟨r, rfl, (show Bh n F tt r ∧ Kq W w3 from HE).1, (show Bh n F tt r ∧ Kq W w3 from HE).2⟩
/-- what comes behind a Turn -/
def Af (n : Nat) (F : Nat → Pv) (tt : Int) (b : Bool) (p : Pv) : Prop := ∃ r, Bh n F tt r ∧ ((r = n ∧ b = false ∧ p = pz) ∨ (r < n ∧ b = true ∧ p = F r))
def AfT (n : Nat) (F : Nat → Pv) (T tt : Int) (b : Bool) (p : Pv) : Prop := (¬ tok n F T ∧ b = false ∧ p = pz) ∨ (tok n F T ∧ Af n F tt b p)
theorem AfT.uniq {n : Nat} {F : Nat → Pv} {T tt : Int} {b c : Bool} {p q : Pv} (h : AfT n F T tt b p) (g : AfT n F T tt c q) : b = c ∧ p = q := by
  rcases h with ⟨h1, rfl, rfl⟩ | ⟨h1, r, hr, h2⟩ <;> rcases g with ⟨g1, rfl, rfl⟩ | ⟨g1, r', hr', g2⟩
  · exact ⟨rfl, rfl⟩
  · exact absurd g1 h1
  · exact absurd h1 g1
  · obtain rfl := hr.uniq hr'
    rcases h2 with ⟨e1, rfl, rfl⟩ | ⟨e1, rfl, rfl⟩ <;> rcases g2 with ⟨f1, rfl, rfl⟩ | ⟨f1, rfl, rfl⟩
    · exact ⟨rfl, rfl⟩
    · omega
    · omega
    · exact ⟨rfl, rfl⟩
theorem AfT.glt {n : Nat} {F : Nat → Pv} {T tt : Int} {b : Bool} {p : Pv} (h : AfT n F T tt b p) (tb : Tb n F) : p.a.g < 18446744073709551616 ∧ p.b.g < 18446744073709551616 := by
  rcases h with ⟨h1, rfl, rfl⟩ | ⟨h1, r, hr, ⟨e1, rfl, rfl⟩ | ⟨e1, rfl, rfl⟩⟩
  · exact ⟨by show (0 : Nat) < _; omega, by show (0 : Nat) < _; omega⟩
  · exact ⟨by show (0 : Nat) < _; omega, by show (0 : Nat) < _; omega⟩
  · exact ⟨(tb.a r e1).g, (tb.b r e1).g⟩
set_option maxHeartbeats 8000000 in
theorem im_after0 {w : World} {B M n : Nat} {F : Nat → Pv} {v : Value} {T : Int} (tt : Int) (W : World) (hL : Lg w B M (lsp F n) v T W) (ht : tok n F T) : Calls Try.prog 54 #[.pointer (some ⟨B, 0, none⟩), .int .i64 tt] W fun e w' => ∃ b p, e = .returned (fov b p) ∧ Af n F tt b p ∧ Kq W w' := by
  obtain ⟨w1, hw1⟩ : ∃ w1, w1 = W.alloc (.cells #[.bool false, .int .i64 0, .int .i64 0, .float .f64 0, .string ⟨#[]⟩, .int .i64 0, .int .i64 0, .int .i64 0, .float .f64 0, .string ⟨#[]⟩, .int .i64 0, .int .i64 0] 53) := ⟨_, rfl⟩
  have k1 : Kq W w1 := by rw [hw1]; exact kq_alloc _ _ _
  have rf1 : Rf w1 W.heap.size := by rw [hw1]; exact Rf.new _ _
  have hL1 := hL.on k1
  have HB : Hid (Calls Try.prog 73 #[.pointer (some ⟨B, 0, none⟩), .int .i64 tt] w1 fun e w' => ∃ r : Nat, e = .returned (.int .i64 (r : Int)) ∧ Bh n F tt r ∧ Kq w1 w') := im_behind tt w1 hL1 ht
  obtain ⟨g, hO, hg⟩ := own_pairs hL1.row
  have hnI : (n : Int) ≤ 500 := by have := ht.1; omega
  obtain ⟨ad, ca, rfl, hsl⟩ := hO.sl
  have HX : Hid (Kq W w1 ∧ Rf w1 W.heap.size ∧ (0 < n → ad = some ⟨g, 0, none⟩ ∧ n ≤ ca) ∧ (∀ i, i < n → Cp w1 ⟨g, i * 11, none⟩ (F i)) ∧ w1.cell? ⟨B, 0, none⟩ = some (.slice ad n ca)) := (⟨k1, rf1, hsl, hO.ce, cell_of hL1.ob rfl⟩ : _ ∧ _ ∧ _ ∧ _ ∧ _)
  clear k1 rf1 hL hL1 hO hg hsl ht
  have hst : ∀ (a : Addr) (n : Nat) (m : Mode) (w : World), (store a (.float .f64 n) m).run Try.prog w = stored Try.prog w a (.float .f64 n) m := fun a n m w => run_store _ _ _ _ _ rfl
  unfold fov
  go_enter Try.func54, Try.ntmps54
  go_wp2_with fail
  rw [← hw1]
  clear hw1
  refine (show Calls Try.prog 73 #[.pointer (some ⟨B, 0, none⟩), .int .i64 tt] w1 _ from HB).mono ?_
  rintro e w2 ⟨q, rfl, hb, k2⟩
  have hX := (show Kq W w1 ∧ Rf w1 W.heap.size ∧ (0 < n → ad = some ⟨g, 0, none⟩ ∧ n ≤ ca) ∧ (∀ i, i < n → Cp w1 ⟨g, i * 11, none⟩ (F i)) ∧ w1.cell? ⟨B, 0, none⟩ = some (.slice ad n ca) from HX)
  have b0 := k2.cell hX.2.2.2.2
  have GK : Hid (Kq W w2) := hX.1.trans k2
  have RF : Hid (Rf w2 W.heap.size) := hX.2.1.kq k2
  have hqn := hb.1
  clear HB
  obtain ⟨u0, u1, u2, u3, u4, u5, u6, u7, u8, u9, u10, u11, uz⟩ := (show Rf w2 W.heap.size from RF)
  by_cases hq : q = n
  · subst hq
    have HE : Hid (Af q F tt false pz) := (⟨q, hb, .inl ⟨rfl, rfl, rfl⟩⟩ : Af q F tt false pz)
    have hqq : ((q : Int) == (q : Int)) = true := by simp
    clear hX HX k2 hb
    go_wp2_with fail
    obtain ⟨e0, e1, e2, e3, e4, e5, e6, e7, e8, e9, e10, e11⟩ := s12_fc (show Rf w2 W.heap.size from RF) false pz
    have GG : Hid (Kq W (s12 w2 W.heap.size false pz)) := s12_kq GK (by omega) false pz
    obtain ⟨WF, hWF⟩ : ∃ WF, WF = s12 w2 W.heap.size false pz := ⟨_, rfl⟩
    rw [← hWF] at e0 e1 e2 e3 e4 e5 e6 e7 e8 e9 e10 e11 GG
    have hWF' := hWF
    unfold s12 at hWF'
    try dsimp only [pz] at hWF' e0 e1 e2 e3 e4 e5 e6 e7 e8 e9 e10 e11
    rw [← hWF']
    clear hWF hWF'
    refine bodyPost_ret (by simp [results, Try.results54, go_sem, e0, e1, e2, e3, e4, e5, e6, e7, e8, e9, e10, e11]; rfl) rfl ?_
    exact ⟨false, pz, rfl, HE, GG⟩
  · have hql : q < n := by omega
    obtain ⟨rfl, hca⟩ := hX.2.2.1 (by omega)
    have HE : Hid (Af n F tt true (F q)) := (⟨q, hb, .inr ⟨hql, rfl, rfl⟩⟩ : Af n F tt true (F q))
    obtain ⟨d0, d1, d2, d3, d4, d5, d6, d7, d8, d9, d10⟩ := (hX.2.2.2.1 q hql).kq k2
    have hqq : ((q : Int) == (n : Int)) = false := by simp; omega
    have hqI : (q : Int) < (n : Int) := by omega
    clear hX HX k2 hb
    generalize F q = p at *
    obtain ⟨⟨k, m, gg, x, r⟩, ⟨k2, m2, g2, x2, r2⟩, t⟩ := p
    dsimp only at d0 d1 d2 d3 d4 d5 d6 d7 d8 d9 d10
    go_wp2_with fail
    clear d0 d1 d2 d3 d4 d5 d6 d7 d8 d9 d10 u0 u1 u2 u3 u4 u5 u6 u7 u8 u9 u10 u11 uz b0
    obtain ⟨e0, e1, e2, e3, e4, e5, e6, e7, e8, e9, e10, e11⟩ := s12_fc (show Rf w2 W.heap.size from RF) true ⟨⟨k, m, gg, x, r⟩, ⟨k2, m2, g2, x2, r2⟩, t⟩
    have GG : Hid (Kq W (s12 w2 W.heap.size true ⟨⟨k, m, gg, x, r⟩, ⟨k2, m2, g2, x2, r2⟩, t⟩)) := s12_kq GK (by omega) true ⟨⟨k, m, gg, x, r⟩, ⟨k2, m2, g2, x2, r2⟩, t⟩
    obtain ⟨WF, hWF⟩ : ∃ WF, WF = s12 w2 W.heap.size true ⟨⟨k, m, gg, x, r⟩, ⟨k2, m2, g2, x2, r2⟩, t⟩ := ⟨_, rfl⟩
    rw [← hWF] at e0 e1 e2 e3 e4 e5 e6 e7 e8 e9 e10 e11 GG
    have hWF' := hWF
    unfold s12 at hWF'
    try dsimp only [pz] at hWF' e0 e1 e2 e3 e4 e5 e6 e7 e8 e9 e10 e11
    rw [← hWF']
    clear hWF hWF'
    refine bodyPost_ret (by simp [results, Try.results54, go_sem, e0, e1, e2, e3, e4, e5, e6, e7, e8, e9, e10, e11]; rfl) rfl ?_
    exact ⟨true, ⟨⟨k, m, gg, x, r⟩, ⟨k2, m2, g2, x2, r2⟩, t⟩, rfl, HE, GG⟩
end Go.Proofs.Ytfpidccjcemcjaa
