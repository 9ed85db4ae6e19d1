import Derived.Test.YtfpidccjcemcjaaUae
namespace Go.Proofs.Ytfpidccjcemcjaa
open Go.ChangeShapes Go.WideShapes Go.ChangeAt Go.RowKit
set_option linter.unusedVariables false
set_option maxRecDepth 100000
/-- a pair of a table -/
structure Pv where
  a : Vv
  b : Vv
  t : Int
def pv (p : Pv) : Value := .agg #[.int .i64 p.a.k, .int .i64 p.a.m, .float .f64 p.a.g, .string p.a.x, .int .i64 p.a.r, .int .i64 p.b.k, .int .i64 p.b.m, .float .f64 p.b.g, .string p.b.x, .int .i64 p.b.r, .int .i64 p.t]
/-- a pair in its eleven cells, the first at b -/
structure Cp (W : World) (b : Addr) (p : Pv) : Prop where
  c0 : W.cell? b = some (.int .i64 p.a.k)
  c1 : W.cell? ⟨b.block, b.off + 1, none⟩ = some (.int .i64 p.a.m)
  c2 : W.cell? ⟨b.block, b.off + 2, none⟩ = some (.float .f64 p.a.g)
  c3 : W.cell? ⟨b.block, b.off + 3, none⟩ = some (.string p.a.x)
  c4 : W.cell? ⟨b.block, b.off + 4, none⟩ = some (.int .i64 p.a.r)
  c5 : W.cell? ⟨b.block, b.off + 5, none⟩ = some (.int .i64 p.b.k)
  c6 : W.cell? ⟨b.block, b.off + 6, none⟩ = some (.int .i64 p.b.m)
  c7 : W.cell? ⟨b.block, b.off + 7, none⟩ = some (.float .f64 p.b.g)
  c8 : W.cell? ⟨b.block, b.off + 8, none⟩ = some (.string p.b.x)
  c9 : W.cell? ⟨b.block, b.off + 9, none⟩ = some (.int .i64 p.b.r)
  c10 : W.cell? ⟨b.block, b.off + 10, none⟩ = some (.int .i64 p.t)
/-- the same in a block of its own -/
structure Pb (W : World) (B : Nat) (p : Pv) : Prop where
  c0 : W.cell? ⟨B, 0, none⟩ = some (.int .i64 p.a.k)
  c1 : W.cell? ⟨B, 1, none⟩ = some (.int .i64 p.a.m)
  c2 : W.cell? ⟨B, 2, none⟩ = some (.float .f64 p.a.g)
  c3 : W.cell? ⟨B, 3, none⟩ = some (.string p.a.x)
  c4 : W.cell? ⟨B, 4, none⟩ = some (.int .i64 p.a.r)
  c5 : W.cell? ⟨B, 5, none⟩ = some (.int .i64 p.b.k)
  c6 : W.cell? ⟨B, 6, none⟩ = some (.int .i64 p.b.m)
  c7 : W.cell? ⟨B, 7, none⟩ = some (.float .f64 p.b.g)
  c8 : W.cell? ⟨B, 8, none⟩ = some (.string p.b.x)
  c9 : W.cell? ⟨B, 9, none⟩ = some (.int .i64 p.b.r)
  c10 : W.cell? ⟨B, 10, none⟩ = some (.int .i64 p.t)
theorem lt_of_cell' {w : World} {b : Addr} {v : Value} (h : w.cell? b = some v) : b.block < w.heap.size := by
  unfold World.cell? at h
  cases hh : w.heap[b.block]? with
  | none => simp [hh] at h
  | some o => exact (Array.getElem?_eq_some_iff.1 hh).1
theorem Kq.cellA {a w : World} (h : Kq a w) {b : Addr} {v : Value} (hc : a.cell? b = some v) : w.cell? b = some v :=
  (World.cell?_of_block (h.block b.block (lt_of_cell' hc))).trans hc
theorem Cp.kq {a w : World} {b : Addr} {p : Pv} (h : Cp a b p) (g : Kq a w) : Cp w b p := ⟨g.cellA h.c0, g.cellA h.c1, g.cellA h.c2, g.cellA h.c3, g.cellA h.c4, g.cellA h.c5, g.cellA h.c6, g.cellA h.c7, g.cellA h.c8, g.cellA h.c9, g.cellA h.c10⟩
theorem Pb.kq {a w : World} {b : Nat} {p : Pv} (h : Pb a b p) (g : Kq a w) : Pb w b p := ⟨g.cellA h.c0, g.cellA h.c1, g.cellA h.c2, g.cellA h.c3, g.cellA h.c4, g.cellA h.c5, g.cellA h.c6, g.cellA h.c7, g.cellA h.c8, g.cellA h.c9, g.cellA h.c10⟩
theorem Pb.new (w : World) (p : Pv) (t : TypeId) : Pb (w.alloc (.cells #[.int .i64 p.a.k, .int .i64 p.a.m, .float .f64 p.a.g, .string p.a.x, .int .i64 p.a.r, .int .i64 p.b.k, .int .i64 p.b.m, .float .f64 p.b.g, .string p.b.x, .int .i64 p.b.r, .int .i64 p.t] t)) w.heap.size p := by
  constructor <;> (rw [World.cell?_alloc_at _ _ _ _ rfl]; rfl)
/-- a row of pairs wherever it lies -/
def RowP (W : World) (v : Value) (n : Nat) (F : Nat → Pv) : Prop :=
  ∃ pa cap, v = .slice pa n cap ∧ (0 < n → ∃ a : Addr, pa = some a ∧ n ≤ cap ∧ ∀ i, i < n → Cp W (a.add (i * 11)) (F i))
theorem RowP.kq {a w : World} {v : Value} {n : Nat} {F : Nat → Pv} (h : RowP a v n F) (g : Kq a w) : RowP w v n F := by
  obtain ⟨pa, cap, h1, h2⟩ := h
  refine ⟨pa, cap, h1, fun hn => ?_⟩
  obtain ⟨a, e1, e2, e3⟩ := h2 hn
  exact ⟨a, e1, e2, fun i hi => (e3 i hi).kq g⟩
set_option maxHeartbeats 4000000 in
theorem sz_pair (p : Pv) (l : Int) (hl : 0 ≤ l ∧ l ≤ 1048576) (ha : (p.a.x.size : Int) < 140737488355328) (hb : (p.b.x.size : Int) < 140737488355328) (w : World) :
    Calls Try.prog 62 #[pv p, .int .i64 l] w fun e w' => ∃ r : Int, e = .returned (.int .i64 r) ∧ (0 ≤ r → (p.a.x.size : Int) ≤ 1048576 ∧ (p.b.x.size : Int) ≤ 1048576) ∧ -1 ≤ r ∧ r ≤ l ∧ Kq w w' := by
  have HA := fun w => sz_val p.a l hl ha w
  by_cases h1 : (p.a.x.size : Int) ≤ l
  case neg =>
    rw [if_neg h1] at HA
    unfold vv at HA
    unfold pv
    clear ha hb
    go_enter Try.func62, Try.ntmps62
    go_wp2_with fail
    refine (HA _).mono ?_
    rintro e w1 ⟨rfl, g1⟩
    have G1 : Hid (Kq w w1) := .of_grown (Grown.trans (by go_grown) g1)
    clear g1
    go_wp2_with fail
    go_ret
    exact ⟨-1, rfl, fun h => by omega, by omega, by omega, G1⟩
  rw [if_pos h1] at HA
  have hl2 : 0 ≤ l - (p.a.x.size : Int) ∧ l - (p.a.x.size : Int) ≤ 1048576 := by omega
  have HB := fun w => sz_val p.b (l - (p.a.x.size : Int)) hl2 hb w
  obtain ⟨r, hr, hr1⟩ : ∃ r, r = (if (p.b.x.size : Int) ≤ l - (p.a.x.size : Int) then l - (p.a.x.size : Int) - (p.b.x.size : Int) else -1) ∧ (0 ≤ r → (p.b.x.size : Int) ≤ 1048576) ∧ -1 ≤ r ∧ r ≤ l := by
    refine ⟨_, rfl, ?_⟩
    split <;> omega
  rw [← hr] at HB
  have hq : ¬ l - (p.a.x.size : Int) < 0 := by omega
  obtain ⟨q, hq'⟩ : ∃ q, q = l - (p.a.x.size : Int) := ⟨_, rfl⟩
  rw [← hq'] at HA HB hq
  unfold vv at HA HB
  unfold pv
  have HR : Hid ((0 ≤ r → (p.a.x.size : Int) ≤ 1048576 ∧ (p.b.x.size : Int) ≤ 1048576) ∧ -1 ≤ r ∧ r ≤ l) := (⟨fun h => ⟨by omega, hr1.1 h⟩, hr1.2.1, hr1.2.2⟩ : _ ∧ _)
  clear ha hb hr hr1 hl2 hq' h1 hl
  go_enter Try.func62, Try.ntmps62
  go_wp2_with fail
  refine (HA _).mono ?_
  rintro e w1 ⟨rfl, g1⟩
  have G1 : Hid (Kq w w1) := .of_grown (Grown.trans (by go_grown) g1)
  obtain ⟨c0, c1, c2, c3, c4, c5, c6, c7, c8, c9, c10⟩ := (Pb.new w p 83).kq (.of_grown g1)
  clear g1
  go_wp2_with fail
  refine (HB _).mono ?_
  rintro e w2 ⟨rfl, g2⟩
  have G2 : Hid (Kq w w2) := Kq.trans G1 (.of_grown g2)
  clear g2 G1
  rcases Int.lt_or_le r 0 with h | h
  · go_wp2_with fail
    go_ret
    obtain ⟨q1, q2, q3⟩ := (show (0 ≤ r → (p.a.x.size : Int) ≤ 1048576 ∧ (p.b.x.size : Int) ≤ 1048576) ∧ -1 ≤ r ∧ r ≤ l from HR)
    exact ⟨-1, rfl, fun h => by omega, by omega, by omega, G2⟩
  · have h' : ¬ r < 0 := by omega
    go_wp2_with fail
    go_ret
    obtain ⟨q1, q2, q3⟩ := (show (0 ≤ r → (p.a.x.size : Int) ≤ 1048576 ∧ (p.b.x.size : Int) ≤ 1048576) ∧ -1 ≤ r ∧ r ≤ l from HR)
    exact ⟨r, rfl, q1, q2, q3, G2⟩
set_option maxHeartbeats 4000000 in
theorem sz_pairs {v : Value} {n : Nat} {F : Nat → Pv} (w : World) (l : Int) (ha : RowP w v n F) (hn : (n : Int) < 140737488355328) (hF : ∀ i, i < n → ((F i).a.x.size : Int) < 140737488355328 ∧ ((F i).b.x.size : Int) < 140737488355328) (hl0 : 0 ≤ l) (hl : l ≤ 1048576) :
    Calls Try.prog 39 #[v, .int .i64 l] w fun e w' => ∃ r : Int, e = .returned (.int .i64 r) ∧ (0 ≤ r → (n : Int) ≤ 1048576 ∧ ∀ i, i < n → ((F i).a.x.size : Int) ≤ 1048576 ∧ ((F i).b.x.size : Int) ≤ 1048576) ∧ -1 ≤ r ∧ r ≤ 1048576 ∧ Kq w w' := by
  obtain ⟨pa, ca, rfl, ha2⟩ := ha
  have HA : Hid ((0 < n → ∃ a : Addr, pa = some a ∧ n ≤ ca ∧ ∀ i, i < n → Cp w (a.add (i * 11)) (F i)) ∧ ∀ i, i < n → ((F i).a.x.size : Int) < 140737488355328 ∧ ((F i).b.x.size : Int) < 140737488355328) := (⟨ha2, hF⟩ : _ ∧ _)
  clear ha2 hF
  go_enter Try.func39, Try.ntmps39
  rcases Int.lt_or_le (l - n) 0 with h | h
  · clear HA
    go_wp2_with fail
    go_ret
    exact ⟨-1, rfl, fun f => by omega, by omega, by omega, Kq.refl _⟩
  · have h' : ¬ (l - n < 0) := by omega
    go_wp2_with fail
    go_loopw [1, 5] (fun s1 s5 wr => ∃ (i : Nat) (x : Int), s1 = .int .i64 x ∧ s5 = .int .i64 (i : Int) ∧ i ≤ n ∧ 0 ≤ x ∧ x ≤ 1048576 ∧ Hid ((∀ j, j < i → ((F j).a.x.size : Int) ≤ 1048576 ∧ ((F j).b.x.size : Int) ≤ 1048576) ∧ Kq w wr)) (fun _ s5 _ => n - (intOf s5).toNat)
    case atStart => exact ⟨0, l - n, rfl, rfl, Nat.zero_le _, by omega, by omega, (⟨fun j hj => by omega, Kq.refl _⟩ : _ ∧ _)⟩
    case round =>
      obtain ⟨i, x, rfl, rfl, hin, hx0, hx1, HX⟩ := hrel
      rcases Nat.lt_or_ge i n with hi | hi
      · have hA := (show (0 < n → ∃ a : Addr, pa = some a ∧ n ≤ ca ∧ ∀ i, i < n → Cp w (a.add (i * 11)) (F i)) ∧ ∀ i, i < n → ((F i).a.x.size : Int) < 140737488355328 ∧ ((F i).b.x.size : Int) < 140737488355328 from HA)
        have hX := (show (∀ j, j < i → ((F j).a.x.size : Int) ≤ 1048576 ∧ ((F j).b.x.size : Int) ≤ 1048576) ∧ Kq w wr from HX)
        obtain ⟨a, rfl, hca, hra⟩ := hA.1 (by omega)
        obtain ⟨y1, y2⟩ := hA.2 i hi
        have hc := (hra i hi).kq hX.2
        have HS : Hid (∀ w, Calls Try.prog 62 #[pv (F i), .int .i64 x] w fun e w' => ∃ r : Int, e = .returned (.int .i64 r) ∧ (0 ≤ r → ((F i).a.x.size : Int) ≤ 1048576 ∧ ((F i).b.x.size : Int) ≤ 1048576) ∧ -1 ≤ r ∧ r ≤ x ∧ Kq w w') := (fun w => sz_pair (F i) x ⟨hx0, hx1⟩ y1 y2 w : ∀ w, _)
        obtain ⟨d0, d1, d2, d3, d4, d5, d6, d7, d8, d9, d10⟩ := hc
        have hiI : (i : Int) < (n : Int) := by omega
        clear hA hra y1 y2 HA hin hX
        go_wp2_with fail
        refine ((show ∀ w, Calls Try.prog 62 #[pv (F i), .int .i64 x] w _ from HS) wr).mono ?_
        rintro e w6 ⟨r, rfl, hs, hm1, hr1, hb6⟩
        have hX := (show (∀ j, j < i → ((F j).a.x.size : Int) ≤ 1048576 ∧ ((F j).b.x.size : Int) ≤ 1048576) ∧ Kq w wr from HX)
        have HB6 : Hid ((0 ≤ r → ∀ j, j < i + 1 → ((F j).a.x.size : Int) ≤ 1048576 ∧ ((F j).b.x.size : Int) ≤ 1048576) ∧ Kq w w6) := (⟨fun h j hj => by
          by_cases e : j = i
          · subst e; exact hs h
          · exact hX.1 j (by omega), hX.2.trans hb6⟩ : _ ∧ _)
        clear HS HX hX hb6 hs d0 d1 d2 d3 d4 d5 d6 d7 d8 d9 d10
        rcases Int.lt_or_le r 0 with hr0 | hr0
        · go_wp2_with fail
          go_ret
          exact ⟨-1, rfl, fun f => by omega, by omega, by omega, HB6.2⟩
        · have hr0' : ¬ (r < 0) := by omega
          have hr2 : r ≤ 1048576 := by omega
          have hnI : (n : Int) ≤ 1048576 := by omega
          clear hn h h' hm1 hl0 hl hx0 hx1 hr1
          go_wp2_with fail
          go_roundw
          case rel => exact ⟨i + 1, r, rfl, by go_num, by omega, hr0, hr2, (⟨HB6.1 hr0, HB6.2⟩ : _ ∧ _)⟩
          case measure => simp [intOf]; omega
      · obtain rfl : i = n := by omega
        clear HA
        go_wp2_with fail
        go_ret
        have hX := (show (∀ j, j < i → ((F j).a.x.size : Int) ≤ 1048576 ∧ ((F j).b.x.size : Int) ≤ 1048576) ∧ Kq w wr from HX)
        exact ⟨x, rfl, fun _ => ⟨by omega, hX.1⟩, by omega, hx1, hX.2⟩
set_option maxHeartbeats 4000000 in
theorem sz_table {v : Value} {n : Nat} {F : Nat → Pv} (T : Int) (w : World) (ha : RowP w v n F) (hn : (n : Int) < 140737488355328) (hF : ∀ i, i < n → ((F i).a.x.size : Int) < 140737488355328 ∧ ((F i).b.x.size : Int) < 140737488355328) :
    Calls Try.prog 14 #[.agg #[v, .int .i64 T], .int .i64 1048576] w fun e w' => ∃ r : Int, e = .returned (.int .i64 r) ∧ (0 ≤ r → (n : Int) ≤ 1048576 ∧ ∀ i, i < n → ((F i).a.x.size : Int) ≤ 1048576 ∧ ((F i).b.x.size : Int) ≤ 1048576) ∧ -1 ≤ r ∧ r ≤ 1048576 ∧ Kq w w' := by
  have hs : Hid (∀ o t, Calls Try.prog 39 #[v, .int .i64 1048576] (w.alloc (.cells o t)) fun e w' => ∃ r : Int, e = .returned (.int .i64 r) ∧ (0 ≤ r → (n : Int) ≤ 1048576 ∧ ∀ i, i < n → ((F i).a.x.size : Int) ≤ 1048576 ∧ ((F i).b.x.size : Int) ≤ 1048576) ∧ -1 ≤ r ∧ r ≤ 1048576 ∧ Kq (w.alloc (.cells o t)) w') := (fun o t => sz_pairs (w.alloc (.cells o t)) 1048576 (ha.kq (.of_grown (Grown.alloc (Grown.refl _) _ _))) hn hF (by omega) (by omega) : ∀ o t, _)
  obtain ⟨pa, ca, rfl, _⟩ := ha
  clear hn hF
  go_enter Try.func14, Try.ntmps14
  go_wp2_with fail
  refine (hs _ _).mono ?_
  rintro e w1 ⟨r, rfl, h1, h2, h3, hb⟩
  have HB : Hid ((0 ≤ r → (n : Int) ≤ 1048576 ∧ ∀ i, i < n → ((F i).a.x.size : Int) ≤ 1048576 ∧ ((F i).b.x.size : Int) ≤ 1048576) ∧ Kq w w1) := (⟨h1, Kq.trans (.of_grown (Grown.alloc (Grown.refl _) _ _)) hb⟩ : _ ∧ _)
  clear hs h1 hb
  rcases Int.lt_or_le r 0 with h | h
  · go_wp2_with fail
    go_ret
    exact ⟨-1, rfl, fun f => by omega, by omega, by omega, HB.2⟩
  · have h' : ¬ r < 0 := by omega
    go_wp2_with fail
    go_ret
    exact ⟨r, rfl, HB.1, h2, h3, HB.2⟩
end Go.Proofs.Ytfpidccjcemcjaa
