import Derived.Test.YtgpbmmhfhjobkaaBah
namespace Go.Proofs.Ytgpbmmhfhjobkaa
open Go.ChangeShapes Go.WideShapes Go.ChangeAt Go.RowKit
set_option linter.unusedVariables false
/-- a form in its nine cells, the first at b -/
structure Cel9 (W : World) (b : Addr) (a : Fv) (vn vk : Value) : Prop where
  c0 : W.cell? b = some (.int .i64 a.k)
  c1 : W.cell? ⟨b.block, b.off + 1, none⟩ = some (.int .i64 a.f)
  c2 : W.cell? ⟨b.block, b.off + 2, none⟩ = some (.int .i64 a.t)
  c3 : W.cell? ⟨b.block, b.off + 3, none⟩ = some (.int .i64 a.l)
  c4 : W.cell? ⟨b.block, b.off + 4, none⟩ = some (.int .i64 a.o)
  c5 : W.cell? ⟨b.block, b.off + 5, none⟩ = some (.int .i64 a.m)
  c6 : W.cell? ⟨b.block, b.off + 6, none⟩ = some (.string a.x)
  c7 : W.cell? ⟨b.block, b.off + 7, none⟩ = some vn
  c8 : W.cell? ⟨b.block, b.off + 8, none⟩ = some vk
/-- a form as the walk of a sheet meets it: its fields and its two rows -/
structure Gv where
  a : Fv
  p : Nat
  A : Nat → ByteArray
  q : Nat
  K : Nat → Int
/-- a form with its rows, in its place -/
def FormC (W : World) (b : Addr) (g : Gv) : Prop := ∃ vn vk, Cel9 W b g.a vn vk ∧ RowV W vn g.p (fun i => .string (g.A i)) ∧ RowV W vk g.q (fun i => .int .i64 (g.K i))
def RowF (W : World) (v : Value) (n : Nat) (F : Nat → Gv) : Prop :=
  ∃ pa cap, v = .slice pa n cap ∧ (0 < n → ∃ a : Addr, pa = some a ∧ n ≤ cap ∧ ∀ i, i < n → FormC W (a.add (i * 9)) (F i))
theorem Cel9.below {W W' : World} {b : Addr} {a : Fv} {vn vk : Value} (h : Cel9 W b a vn vk) (hb : Below W.heap.size W W') : Cel9 W' b a vn vk := by
  have hl := lt_of_cell' h.c0
  have e : ∀ j, W'.cell? ⟨b.block, j, none⟩ = W.cell? ⟨b.block, j, none⟩ := fun j => hb.cell (p := ⟨b.block, j, none⟩) hl
  exact ⟨(hb.cell hl).trans h.c0, (e _).trans h.c1, (e _).trans h.c2, (e _).trans h.c3, (e _).trans h.c4, (e _).trans h.c5, (e _).trans h.c6, (e _).trans h.c7, (e _).trans h.c8⟩
theorem FormC.below {W W' : World} {b : Addr} {g : Gv} (h : FormC W b g) (hb : Below W.heap.size W W') : FormC W' b g := by
  obtain ⟨vn, vk, h1, h2, h3⟩ := h
  exact ⟨vn, vk, h1.below hb, h2.below hb, h3.below hb⟩
theorem szf_sub (x : ByteArray) (p : Nat) (A : Nat → ByteArray) (q : Nat) (l : Int) (h : 0 ≤ szf x p A q l) : szf x p A q l + (p : Int) + (q : Int) ≤ l := by
  unfold szf at h ⊢
  have := lfs_le A (l - (x.size : Int) - p) p
  split at h
  · omega
  · rename_i h1
    rw [if_neg h1]
    split at h
    · omega
    · rename_i h2
      rw [if_neg h2]
      split at h
      · omega
      · rename_i h3
        rw [if_neg h3]
        omega
/-- how many values the rows of the first i forms hold -/
def smr (F : Nat → Gv) : Nat → Nat
  | 0 => 0
  | i + 1 => smr F i + (F i).p + (F i).q
set_option maxRecDepth 100000 in
set_option maxHeartbeats 4000000 in
theorem sz_forms {v : Value} {n : Nat} {F : Nat → Gv} (w : World) (l : Int) (ha : RowF w v n F) (hn : (n : Int) < 140737488355328)
    (hF : ∀ i, i < n → ((F i).a.x.size : Int) < 140737488355328 ∧ ((F i).p : Int) < 140737488355328 ∧ (∀ j, j < (F i).p → (((F i).A j).size : Int) < 140737488355328) ∧ ((F i).q : Int) < 140737488355328) (hl0 : 0 ≤ l) (hl : l ≤ 1048576) :
    Calls Try.prog 11 #[v, .int .i64 l] w fun e w' => ∃ r : Int, e = .returned (.int .i64 r) ∧ (0 ≤ r → (n : Int) + (smr F n : Int) ≤ l) ∧ -1 ≤ r ∧ r ≤ 1048576 ∧ Below w.heap.size w w' := by
  obtain ⟨pa, ca, rfl, ha2⟩ := ha
  have HA : Hid ((0 < n → ∃ a : Addr, pa = some a ∧ n ≤ ca ∧ ∀ i, i < n → FormC w (a.add (i * 9)) (F i)) ∧ ∀ i, i < n → ((F i).a.x.size : Int) < 140737488355328 ∧ ((F i).p : Int) < 140737488355328 ∧ (∀ j, j < (F i).p → (((F i).A j).size : Int) < 140737488355328) ∧ ((F i).q : Int) < 140737488355328) := (⟨ha2, hF⟩ : _ ∧ _)
  clear ha2 hF
  go_enter Try.func11, Try.ntmps11
  rcases Int.lt_or_le (l - n) 0 with h | h
  · clear HA
    go_wp2_with fail
    go_ret
    exact ⟨-1, rfl, fun f => by omega, by omega, by omega, Below.refl _ _⟩
  · have h' : ¬ (l - n < 0) := by omega
    go_wp2_with fail
    go_loopw [1, 5] (fun s1 s5 wr => ∃ (i : Nat) (x : Int), s1 = .int .i64 x ∧ s5 = .int .i64 (i : Int) ∧ i ≤ n ∧ 0 ≤ x ∧ x ≤ 1048576 ∧ Hid (x + (n : Int) + (smr F i : Int) ≤ l ∧ Below w.heap.size w wr)) (fun _ s5 _ => n - (intOf s5).toNat)
    case atStart => exact ⟨0, l - n, rfl, rfl, Nat.zero_le _, by omega, by omega, (⟨by show l - n + n + ((0 : Nat) : Int) ≤ l; omega, Below.refl _ _⟩ : _ ∧ _)⟩
    case round =>
      obtain ⟨i, x, rfl, rfl, hin, hx0, hx1, HX⟩ := hrel
      rcases Nat.lt_or_ge i n with hi | hi
      · have hA := (show (0 < n → ∃ a : Addr, pa = some a ∧ n ≤ ca ∧ ∀ i, i < n → FormC w (a.add (i * 9)) (F i)) ∧ ∀ i, i < n → ((F i).a.x.size : Int) < 140737488355328 ∧ ((F i).p : Int) < 140737488355328 ∧ (∀ j, j < (F i).p → (((F i).A j).size : Int) < 140737488355328) ∧ ((F i).q : Int) < 140737488355328 from HA)
        have hX := (show x + (n : Int) + (smr F i : Int) ≤ l ∧ Below w.heap.size w wr from HX)
        obtain ⟨a, rfl, hca, hra⟩ := hA.1 (by omega)
        obtain ⟨y1, y2, y3, y4⟩ := hA.2 i hi
        obtain ⟨vn, vk, hc, hrn, hrk⟩ := (hra i hi).below hX.2
        have hsz := fun W' (hb : Below wr.heap.size wr W') => sz_form W' x (a := (F i).a) (hrn.below hb) (hrk.below hb) y1 y2 y3 y4 hx0 hx1
        have hsub := szf_sub (F i).a.x (F i).p (F i).A (F i).q x
        have hle := szf_le (F i).a.x (F i).p (F i).A (F i).q x hx0
        obtain ⟨r, hr⟩ : ∃ r, r = szf (F i).a.x (F i).p (F i).A (F i).q x := ⟨_, rfl⟩
        rw [← hr] at hsub hle
        have hm1 : -1 ≤ r := by
          rw [hr]; unfold szf
          split
          · omega
          · split
            · omega
            · split <;> omega
        have HS : Hid (Calls Try.prog 20 #[fmv (F i).a vn vk, .int .i64 x] wr fun e w' => e = .returned (.int .i64 r) ∧ Below wr.heap.size wr w') := by
          rw [hr]; exact hsz wr (Below.refl _ _)
        have HSUB : Hid ((0 ≤ r → r + (n : Int) + (smr F (i + 1) : Int) ≤ l) ∧ Below w.heap.size w wr) := (⟨fun g => by
          have := hsub g
          have := hX.1
          show r + (n : Int) + ((smr F i + (F i).p + (F i).q : Nat) : Int) ≤ l
          omega, hX.2⟩ : _ ∧ _)
        obtain ⟨d0, d1, d2, d3, d4, d5, d6, d7, d8⟩ := hc
        have hiI : (i : Int) < (n : Int) := by omega
        clear hA hX HX hra y1 y2 y3 y4 hrn hrk hsz hsub hr HA hin
        go_wp2_with fail
        refine (show Calls Try.prog 20 #[fmv (F i).a vn vk, .int .i64 x] wr fun e w' => e = .returned (.int .i64 r) ∧ Below wr.heap.size wr w' from HS).mono ?_
        rintro e w6 ⟨rfl, hb6⟩
        have hS := (show (0 ≤ r → r + (n : Int) + (smr F (i + 1) : Int) ≤ l) ∧ Below w.heap.size w wr from HSUB)
        have HB6 : Hid ((0 ≤ r → r + (n : Int) + (smr F (i + 1) : Int) ≤ l) ∧ Below w.heap.size w w6) := (⟨hS.1, hS.2.trans (hb6.mono hS.2.size)⟩ : _ ∧ _)
        clear HS HSUB hS hb6 d0 d1 d2 d3 d4 d5 d6 d7 d8
        rcases Int.lt_or_le r 0 with hr0 | hr0
        · go_wp2_with fail
          go_ret
          exact ⟨-1, rfl, fun f => by omega, by omega, by omega, HB6.2⟩
        · have hr0' : ¬ (r < 0) := by omega
          have hr1 : r ≤ 1048576 := by omega
          have hnI : (n : Int) ≤ 1048576 := by omega
          clear hn hle h h' hm1 hl0 hl hx0 hx1
          go_wp2_with fail
          go_roundw
          case rel => exact ⟨i + 1, r, rfl, by go_num, by omega, hr0, hr1, (⟨HB6.1 hr0, HB6.2⟩ : _ ∧ _)⟩
          case measure => simp [intOf]; omega
      · obtain rfl : i = n := by omega
        clear HA
        go_wp2_with fail
        go_ret
        have hX := (show x + (i : Int) + (smr F i : Int) ≤ l ∧ Below w.heap.size w wr from HX)
        exact ⟨x, rfl, fun _ => by have := hX.1; omega, by omega, hx1, hX.2⟩
end Go.Proofs.Ytgpbmmhfhjobkaa
