import Derived.Test.YtaoagjajjeddcaaEvp
import Derived.Deep.RegionHeldLaw
namespace Go.Proofs.Ytaoagjajjeddcaa.Fo
open Go.ChangeShapes Go.WideShapes Go.ChangeAt Go.RowKit
set_option linter.unusedVariables false
set_option maxRecDepth 100000

/-- an event -/
structure Ev where
  op : Int
  n : Int
  m : Int
  k : Int
  f : Int
  l : Int
  x : ByteArray
  y : ByteArray
  z : ByteArray
  q : Nat
  A : Nat → Bool
/-- its ten cells at b, v the last -/
def CelE (W : World) (b : Addr) (e : Ev) (v : Value) : Prop := W.cell? b = some (.int .i64 e.op) ∧ W.cell? ⟨b.block, b.off + 1, none⟩ = some (.int .i64 e.n) ∧ W.cell? ⟨b.block, b.off + 2, none⟩ = some (.int .i64 e.m) ∧ W.cell? ⟨b.block, b.off + 3, none⟩ = some (.string e.x) ∧ W.cell? ⟨b.block, b.off + 4, none⟩ = some (.string e.y) ∧ W.cell? ⟨b.block, b.off + 5, none⟩ = some (.int .i64 e.k) ∧ W.cell? ⟨b.block, b.off + 6, none⟩ = some (.int .i64 e.f) ∧ W.cell? ⟨b.block, b.off + 7, none⟩ = some (.int .i64 e.l) ∧ W.cell? ⟨b.block, b.off + 8, none⟩ = some (.string e.z) ∧ W.cell? ⟨b.block, b.off + 9, none⟩ = some (v)
/-- a row of events -/
def RowEv (W : World) (v : Value) (n : Nat) (F : Nat → Ev) : Prop := ∃ p c, v = .slice p n c ∧ (0 < n → ∃ a : Addr, p = some a ∧ n ≤ c ∧ ∀ i, i < n → ∃ pk ck, CelE W (a.add (i * 10)) (F i) (.slice pk (F i).q ck) ∧ RowV W (.slice pk (F i).q ck) (F i).q (fun j => .bool ((F i).A j)))
theorem CelE.keep {W W' : World} {b : Addr} {e : Ev} {v : Value} (h : CelE W b e v) (k : Kb 0 W W') : CelE W' b e v := by
  obtain ⟨h0, h1, h2, h3, h4, h5, h6, h7, h8, h9⟩ := h
  exact ⟨k.cell h0, k.cell h1, k.cell h2, k.cell h3, k.cell h4, k.cell h5, k.cell h6, k.cell h7, k.cell h8, k.cell h9⟩
theorem RowEv.keep {W W' : World} {v : Value} {n : Nat} {F : Nat → Ev} (h : RowEv W v n F) (k : Kb 0 W W') : RowEv W' v n F := by
  obtain ⟨p, c, e, h2⟩ := h
  refine ⟨p, c, e, fun hn => ?_⟩
  obtain ⟨a, q1, q2, q3⟩ := h2 hn
  refine ⟨a, q1, q2, fun i hi => ?_⟩
  obtain ⟨pk, ck, r1, r2⟩ := q3 i hi
  exact ⟨pk, ck, r1.keep k, (r2.rowB.keep k).row⟩
/-- the sizes of an event's parts can be -/
def EvZ (e : Ev) : Prop := (e.x.size : Int) ≤ 9223372036854775807 ∧ (e.y.size : Int) ≤ 9223372036854775807 ∧ (e.z.size : Int) ≤ 9223372036854775807 ∧ (e.q : Int) ≤ 9223372036854775807
/-- how many bools the first n hold -/
def qsm (F : Nat → Ev) : Nat → Nat
  | 0 => 0
  | n + 1 => qsm F n + (F n).q
theorem q_le (F : Nat → Ev) : ∀ n i, i < n → (F i).q ≤ qsm F n
  | n + 1, i, h => by
    show (F i).q ≤ qsm F n + (F n).q
    by_cases e : i = n
    · subst e; omega
    · have := q_le F n i (by omega); omega
set_option maxHeartbeats 8000000 in
theorem sz_evs {va : Value} {n : Nat} {F : Nat → Ev} (w : World) (ha : RowEv w va n F) (hn : (n : Int) < 140737488355328) (hF : ∀ i, i < n → EvZ (F i)) :
    Calls Try.prog 15 #[va, .int .i64 1048576] w fun e w' => ∃ r : Int, e = .returned (.int .i64 r) ∧ (r < 0 ∨ ((n : Int) + (qsm F n : Int) ≤ 1048576 ∧ 0 ≤ r)) ∧ Kb 0 w w' := by
  obtain ⟨pa, ca, rfl, ha2⟩ := ha
  have HA : Hid ((0 < n → ∃ a : Addr, pa = some a ∧ n ≤ ca ∧ ∀ i, i < n → ∃ pk ck, CelE w (a.add (i * 10)) (F i) (.slice pk (F i).q ck) ∧ RowV w (.slice pk (F i).q ck) (F i).q (fun j => .bool ((F i).A j))) ∧ ∀ i, i < n → EvZ (F i)) := (⟨ha2, hF⟩ : _ ∧ _)
  clear ha2 hF
  go_enter Try.func15, Try.ntmps15
  rcases Int.lt_or_le ((1048576 : Int) - n) 0 with h | h
  · clear HA
    go_wp2_with fail
    go_ret
    exact ⟨-1, rfl, .inl (by omega), Kb.refl _ _⟩
  · have h' : ¬ ((1048576 : Int) - n < 0) := by omega
    go_wp2_with fail
    go_loopw [1, 5] (fun s1 s5 wr => ∃ (i : Nat) (x : Int), s1 = .int .i64 x ∧ s5 = .int .i64 (i : Int) ∧ i ≤ n ∧ 0 ≤ x ∧ x ≤ 1048576 ∧ Hid (x + (n : Int) + (qsm F i : Int) ≤ 1048576 ∧ Kb 0 w wr)) (fun _ s5 _ => n - (intOf s5).toNat)
    case atStart => exact ⟨0, 1048576 - n, rfl, rfl, Nat.zero_le _, by omega, by omega, (⟨by show (1048576 : Int) - n + n + ((0 : Nat) : Int) ≤ 1048576; omega, Kb.refl _ _⟩ : _ ∧ _)⟩
    case round =>
      obtain ⟨i, x, rfl, rfl, hin, hx0, hx1, HX⟩ := hrel
      rcases Nat.lt_or_ge i n with hi | hi
      · have hA := (show (0 < n → ∃ a : Addr, pa = some a ∧ n ≤ ca ∧ ∀ i, i < n → ∃ pk ck, CelE w (a.add (i * 10)) (F i) (.slice pk (F i).q ck) ∧ RowV w (.slice pk (F i).q ck) (F i).q (fun j => .bool ((F i).A j))) ∧ ∀ i, i < n → EvZ (F i) from HA)
        have hX := (show x + (n : Int) + (qsm F i : Int) ≤ 1048576 ∧ Kb 0 w wr from HX)
        obtain ⟨a, rfl, hca, hra⟩ := hA.1 (by omega)
        obtain ⟨pk, ck, hcel, -⟩ := hra i hi
        obtain ⟨z1, z2, z3, z4⟩ := hA.2 i hi
        obtain ⟨d0, d1, d2, d3, d4, d5, d6, d7, d8, d9⟩ := hcel.keep hX.2
        have HS : Hid (Calls Try.prog 10 #[.agg #[.int .i64 (F i).op, .int .i64 (F i).n, .int .i64 (F i).m, .string (F i).x, .string (F i).y, .int .i64 (F i).k, .int .i64 (F i).f, .int .i64 (F i).l, .string (F i).z, .slice pk (F i).q ck], .int .i64 x] wr fun e w' => ∃ r : Int, e = .returned (.int .i64 r) ∧ (r < 0 ∨ (0 ≤ r ∧ r = x - ((F i).x.size : Int) - ((F i).y.size : Int) - ((F i).z.size : Int) - ((F i).q : Int))) ∧ Kb 0 wr w') := sz_event wr z1 z2 z3 z4 hx0 hx1
        have hiI : (i : Int) < (n : Int) := by omega
        clear hA hX hra HA hin hcel z1 z2 z3 z4
        go_wp2_with fail
        refine (show Calls Try.prog 10 #[.agg #[.int .i64 (F i).op, .int .i64 (F i).n, .int .i64 (F i).m, .string (F i).x, .string (F i).y, .int .i64 (F i).k, .int .i64 (F i).f, .int .i64 (F i).l, .string (F i).z, .slice pk (F i).q ck], .int .i64 x] wr _ from HS).mono ?_
        rintro e w6 ⟨r, rfl, hr, hb6⟩
        have hX := (show x + (n : Int) + (qsm F i : Int) ≤ 1048576 ∧ Kb 0 w wr from HX)
        have HB6 : Hid ((0 ≤ r → r ≤ 1048576 ∧ r + (n : Int) + (qsm F (i + 1) : Int) ≤ 1048576) ∧ Kb 0 w w6) := (⟨fun h => by
          have e : qsm F (i + 1) = qsm F i + (F i).q := rfl
          rw [e]
          rcases hr with hr | hr <;> omega, hX.2.trans hb6⟩ : _ ∧ _)
        clear HS HX hX hr hb6 d0 d1 d2 d3 d4 d5 d6 d7 d8 d9
        rcases Int.lt_or_le r 0 with c | c
        · go_wp2_with fail
          go_ret
          exact ⟨-1, rfl, .inl (by omega), (show _ ∧ _ from HB6).2⟩
        · have c' : ¬ r < 0 := by omega
          have hnI : (n : Int) ≤ 1048576 := by omega
          clear hn h h' hx0 hx1
          go_wp2_with fail
          go_roundw
          case rel => exact ⟨i + 1, r, rfl, by go_num, by omega, c, ((show _ ∧ _ from HB6).1 c).1, (⟨((show _ ∧ _ from HB6).1 c).2, (show _ ∧ _ from HB6).2⟩ : _ ∧ _)⟩
          case measure => simp [intOf]; omega
      · obtain rfl : i = n := by omega
        clear HA
        go_wp2_with fail
        go_ret
        have hX := (show x + (i : Int) + (qsm F i : Int) ≤ 1048576 ∧ Kb 0 w wr from HX)
        exact ⟨x, rfl, .inr ⟨by omega, hx0⟩, hX.2⟩
set_option maxHeartbeats 16000000 in
theorem eq_evs {va vb : Value} {n : Nat} {F : Nat → Ev} (w : World) (ha : RowEv w va n F) (hb : RowEv w vb n F) (hn : n ≤ 1048576) (hF : ∀ i, i < n → (F i).q ≤ 1048576) :
    Calls Try.prog 20 #[va, vb] w fun e w' => e = .returned (.bool true) ∧ Kb 0 w w' := by
  obtain ⟨pa, ca, rfl, ha2⟩ := ha
  obtain ⟨pb, cb, rfl, hb2⟩ := hb
  have HA : Hid ((0 < n → ∃ a : Addr, pa = some a ∧ n ≤ ca ∧ ∀ i, i < n → ∃ pk ck, CelE w (a.add (i * 10)) (F i) (.slice pk (F i).q ck) ∧ RowV w (.slice pk (F i).q ck) (F i).q (fun j => .bool ((F i).A j))) ∧ (0 < n → ∃ a : Addr, pb = some a ∧ n ≤ cb ∧ ∀ i, i < n → ∃ pk ck, CelE w (a.add (i * 10)) (F i) (.slice pk (F i).q ck) ∧ RowV w (.slice pk (F i).q ck) (F i).q (fun j => .bool ((F i).A j))) ∧ ∀ i, i < n → (F i).q ≤ 1048576) := (⟨ha2, hb2, hF⟩ : _ ∧ _)
  have hnI : (n : Int) ≤ 1048576 := by omega
  clear ha2 hb2 hn hF
  go_enter Try.func20, Try.ntmps20
  go_wp2_with fail
  go_loopw [5] (fun s5 wr => ∃ i : Nat, s5 = .int .i64 (i : Int) ∧ i ≤ n ∧ Hid (Kb 0 w wr)) (fun s5 _ => n - (intOf s5).toNat)
  case atStart => exact ⟨0, rfl, Nat.zero_le _, Kb.refl _ _⟩
  case round =>
    obtain ⟨i, rfl, hin, HB⟩ := hrel
    rcases Nat.lt_or_ge i n with hi | hi
    · obtain ⟨hA1, hA2, hA3⟩ := (show (0 < n → ∃ a : Addr, pa = some a ∧ n ≤ ca ∧ ∀ i, i < n → ∃ pk ck, CelE w (a.add (i * 10)) (F i) (.slice pk (F i).q ck) ∧ RowV w (.slice pk (F i).q ck) (F i).q (fun j => .bool ((F i).A j))) ∧ (0 < n → ∃ a : Addr, pb = some a ∧ n ≤ cb ∧ ∀ i, i < n → ∃ pk ck, CelE w (a.add (i * 10)) (F i) (.slice pk (F i).q ck) ∧ RowV w (.slice pk (F i).q ck) (F i).q (fun j => .bool ((F i).A j))) ∧ ∀ i, i < n → (F i).q ≤ 1048576 from HA)
      obtain ⟨qa, rfl, hca, hra⟩ := hA1 (by omega)
      obtain ⟨qb, rfl, hcb, hrb⟩ := hA2 (by omega)
      have hiI : (i : Int) < (n : Int) := by omega
      obtain ⟨p0, c0, g0, r0⟩ := hra i hi
      obtain ⟨p1, c1, g1, r1⟩ := hrb i hi
      have y1 := hA3 i hi
      have kwr := (show Kb 0 w wr from HB)
      obtain ⟨a0, a1, a2, a3, a4, a5, a6, a7, a8, a9⟩ := g0.keep kwr
      obtain ⟨b0, b1, b2, b3, b4, b5, b6, b7, b8, b9⟩ := g1.keep kwr
      clear g0 g1 hra hrb hA1 hA2 hA3
      generalize F i = ev at a0 b0 a1 b1 a2 b2 a3 b3 a4 b4 a5 b5 a6 b6 a7 b7 a8 b8 a9 b9 r0 r1 y1
      obtain ⟨op, n0, m0, k0, f0, l0, x, y, z, q, AA⟩ := ev
      dsimp only at a0 b0 a1 b1 a2 b2 a3 b3 a4 b4 a5 b5 a6 b6 a7 b7 a8 b8 a9 b9 r0 r1 y1
      have HEQ : Hid (∀ W', W'.heap = wr.heap → W'.os = wr.os → W'.output = wr.output → Calls Try.prog 14 #[.agg #[.int .i64 op, .int .i64 n0, .int .i64 m0, .string x, .string y, .int .i64 k0, .int .i64 f0, .int .i64 l0, .string z, .slice p0 q c0], .agg #[.int .i64 op, .int .i64 n0, .int .i64 m0, .string x, .string y, .int .i64 k0, .int .i64 f0, .int .i64 l0, .string z, .slice p1 q c1]] W' fun e w' => e = .returned (.bool true) ∧ Kb 0 wr w') := (fun W' h0 h1 h2 => by
        have kk : Kb 0 wr W' := ⟨h1, h2, by rw [h0]; exact Nat.le_refl _, fun k _ _ => by rw [h0]⟩
        refine (eq_event W' ((r0.rowB.keep (kwr.trans kk)).row) ((r1.rowB.keep (kwr.trans kk)).row) y1).mono ?_
        rintro e w' ⟨rfl, k⟩
        exact ⟨rfl, kk.trans k⟩ : ∀ W', _)
      have HKEEP : Hid (∀ (W' : World), Kb 0 wr W' → W'.cell? (qa.add (i * 10)) = some (.int .i64 op) ∧ W'.cell? ⟨(qa.add (i * 10)).block, (qa.add (i * 10)).off + 1, none⟩ = some (.int .i64 n0) ∧ W'.cell? ⟨(qa.add (i * 10)).block, (qa.add (i * 10)).off + 2, none⟩ = some (.int .i64 m0) ∧ W'.cell? ⟨(qa.add (i * 10)).block, (qa.add (i * 10)).off + 3, none⟩ = some (.string x) ∧ W'.cell? ⟨(qa.add (i * 10)).block, (qa.add (i * 10)).off + 4, none⟩ = some (.string y) ∧ W'.cell? ⟨(qa.add (i * 10)).block, (qa.add (i * 10)).off + 5, none⟩ = some (.int .i64 k0) ∧ W'.cell? ⟨(qa.add (i * 10)).block, (qa.add (i * 10)).off + 6, none⟩ = some (.int .i64 f0) ∧ W'.cell? ⟨(qa.add (i * 10)).block, (qa.add (i * 10)).off + 7, none⟩ = some (.int .i64 l0) ∧ W'.cell? ⟨(qa.add (i * 10)).block, (qa.add (i * 10)).off + 8, none⟩ = some (.string z) ∧ W'.cell? ⟨(qa.add (i * 10)).block, (qa.add (i * 10)).off + 9, none⟩ = some (.slice p0 q c0) ∧ W'.cell? (qb.add (i * 10)) = some (.int .i64 op) ∧ W'.cell? ⟨(qb.add (i * 10)).block, (qb.add (i * 10)).off + 1, none⟩ = some (.int .i64 n0) ∧ W'.cell? ⟨(qb.add (i * 10)).block, (qb.add (i * 10)).off + 2, none⟩ = some (.int .i64 m0) ∧ W'.cell? ⟨(qb.add (i * 10)).block, (qb.add (i * 10)).off + 3, none⟩ = some (.string x) ∧ W'.cell? ⟨(qb.add (i * 10)).block, (qb.add (i * 10)).off + 4, none⟩ = some (.string y) ∧ W'.cell? ⟨(qb.add (i * 10)).block, (qb.add (i * 10)).off + 5, none⟩ = some (.int .i64 k0) ∧ W'.cell? ⟨(qb.add (i * 10)).block, (qb.add (i * 10)).off + 6, none⟩ = some (.int .i64 f0) ∧ W'.cell? ⟨(qb.add (i * 10)).block, (qb.add (i * 10)).off + 7, none⟩ = some (.int .i64 l0) ∧ W'.cell? ⟨(qb.add (i * 10)).block, (qb.add (i * 10)).off + 8, none⟩ = some (.string z) ∧ W'.cell? ⟨(qb.add (i * 10)).block, (qb.add (i * 10)).off + 9, none⟩ = some (.slice p1 q c1)) := (fun W' k => ⟨k.cell a0, k.cell a1, k.cell a2, k.cell a3, k.cell a4, k.cell a5, k.cell a6, k.cell a7, k.cell a8, k.cell a9, k.cell b0, k.cell b1, k.cell b2, k.cell b3, k.cell b4, k.cell b5, k.cell b6, k.cell b7, k.cell b8, k.cell b9⟩ : ∀ (W' : World), _)
      clear HA r0 r1 y1 kwr hin
      go_wp2_with fail
      go_region_held_law (fun W' => W'.cell? (qa.add (i * 10)) = some (.int .i64 op) ∧ W'.cell? ⟨(qa.add (i * 10)).block, (qa.add (i * 10)).off + 1, none⟩ = some (.int .i64 n0) ∧ W'.cell? ⟨(qa.add (i * 10)).block, (qa.add (i * 10)).off + 2, none⟩ = some (.int .i64 m0) ∧ W'.cell? ⟨(qa.add (i * 10)).block, (qa.add (i * 10)).off + 3, none⟩ = some (.string x) ∧ W'.cell? ⟨(qa.add (i * 10)).block, (qa.add (i * 10)).off + 4, none⟩ = some (.string y) ∧ W'.cell? ⟨(qa.add (i * 10)).block, (qa.add (i * 10)).off + 5, none⟩ = some (.int .i64 k0) ∧ W'.cell? ⟨(qa.add (i * 10)).block, (qa.add (i * 10)).off + 6, none⟩ = some (.int .i64 f0) ∧ W'.cell? ⟨(qa.add (i * 10)).block, (qa.add (i * 10)).off + 7, none⟩ = some (.int .i64 l0) ∧ W'.cell? ⟨(qa.add (i * 10)).block, (qa.add (i * 10)).off + 8, none⟩ = some (.string z) ∧ W'.cell? ⟨(qa.add (i * 10)).block, (qa.add (i * 10)).off + 9, none⟩ = some (.slice p0 q c0) ∧ W'.cell? (qb.add (i * 10)) = some (.int .i64 op) ∧ W'.cell? ⟨(qb.add (i * 10)).block, (qb.add (i * 10)).off + 1, none⟩ = some (.int .i64 n0) ∧ W'.cell? ⟨(qb.add (i * 10)).block, (qb.add (i * 10)).off + 2, none⟩ = some (.int .i64 m0) ∧ W'.cell? ⟨(qb.add (i * 10)).block, (qb.add (i * 10)).off + 3, none⟩ = some (.string x) ∧ W'.cell? ⟨(qb.add (i * 10)).block, (qb.add (i * 10)).off + 4, none⟩ = some (.string y) ∧ W'.cell? ⟨(qb.add (i * 10)).block, (qb.add (i * 10)).off + 5, none⟩ = some (.int .i64 k0) ∧ W'.cell? ⟨(qb.add (i * 10)).block, (qb.add (i * 10)).off + 6, none⟩ = some (.int .i64 f0) ∧ W'.cell? ⟨(qb.add (i * 10)).block, (qb.add (i * 10)).off + 7, none⟩ = some (.int .i64 l0) ∧ W'.cell? ⟨(qb.add (i * 10)).block, (qb.add (i * 10)).off + 8, none⟩ = some (.string z) ∧ W'.cell? ⟨(qb.add (i * 10)).block, (qb.add (i * 10)).off + 9, none⟩ = some (.slice p1 q c1)) (first | exact ⟨a0, a1, a2, a3, a4, a5, a6, a7, a8, a9, b0, b1, b2, b3, b4, b5, b6, b7, b8, b9⟩ | exact (show ∀ (W' : World), _ from HKEEP) _ k5)
        ((go_at_call 14; refine ((show ∀ W', W'.heap = wr.heap → W'.os = wr.os → W'.output = wr.output → Calls Try.prog 14 #[.agg #[.int .i64 op, .int .i64 n0, .int .i64 m0, .string x, .string y, .int .i64 k0, .int .i64 f0, .int .i64 l0, .string z, .slice p0 q c0], .agg #[.int .i64 op, .int .i64 n0, .int .i64 m0, .string x, .string y, .int .i64 k0, .int .i64 f0, .int .i64 l0, .string z, .slice p1 q c1]] W' fun e w' => e = .returned (.bool true) ∧ Kb 0 wr w' from HEQ) _ (by exact rfl) (by exact rfl) (by exact rfl)).mono ?_; rintro e w5 ⟨rfl, k5⟩))
      all_goals
        have HB5 : Hid (Kb 0 w w5) := (show Kb 0 w wr from HB).trans k5
        clear HB HKEEP HEQ k5 a0 b0 a1 b1 a2 b2 a3 b3 a4 b4 a5 b5 a6 b6 a7 b7 a8 b8 a9 b9
        go_wp2_with fail
        go_roundw
        case rel => exact ⟨i + 1, by go_num, by omega, HB5⟩
        case measure => simp [intOf]; omega
    · obtain rfl : i = n := by omega
      clear HA
      go_wp2_with fail
      go_ret
      exact ⟨rfl, HB⟩
end Go.Proofs.Ytaoagjajjeddcaa.Fo
