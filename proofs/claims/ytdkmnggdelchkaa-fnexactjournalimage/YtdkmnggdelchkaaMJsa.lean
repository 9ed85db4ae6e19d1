import Derived.Deep.RegionHeldLaw
import Derived.Test.YtdkmnggdelchkaaMJtc
import Derived.Test.YtdkmnggdelchkaaMGbb
import Derived.Test.YtdkmnggdelchkaaMGea
namespace Go.Proofs.Ytdkmnggdelchkaa.Fo.Js
open Go.ChangeShapes Go.WideShapes Go.ChangeAt Go.RowKit
set_option linter.unusedVariables false
set_option maxRecDepth 100000
def gvv (a : Gv) : Value := .agg #[.int .i64 a.k, .int .i64 a.m, .int .i64 a.r, .string a.x]
structure CelV (W : World) (b : Addr) (a : Gv) : Prop where
  c0 : W.cell? b = some (.int .i64 a.k)
  c1 : W.cell? ⟨b.block, b.off + 1, none⟩ = some (.int .i64 a.m)
  c2 : W.cell? ⟨b.block, b.off + 2, none⟩ = some (.int .i64 a.r)
  c3 : W.cell? ⟨b.block, b.off + 3, none⟩ = some (.string a.x)
theorem CelV.keep {W W' : World} {c : Nat} {b : Addr} {a : Gv} (h : CelV W b a) (hb : c ≤ b.block) (k : Kb c W W') : CelV W' b a :=
  ⟨k.cellA hb h.c0, k.cellA hb h.c1, k.cellA hb h.c2, k.cellA hb h.c3⟩
theorem CelV.of {W : World} {g o : Nat} {a : Gv} (h : ∀ t, t < 4 → W.cell? ⟨g, o + t, none⟩ = ([.int .i64 a.k, .int .i64 a.m, .int .i64 a.r, .string a.x] : List Value)[t]?) : CelV W ⟨g, o, none⟩ a :=
  ⟨h 0 (by omega), h 1 (by omega), h 2 (by omega), h 3 (by omega)⟩
def ValC (b : Nat) (W : World) (p : Addr) (a : Gv) : Prop := CelV W p a
theorem ValC.keep {b : Nat} {W W' : World} {p : Addr} {a : Gv} (h : ValC b W p a) (hb : b ≤ p.block) (k : Kb b W W') : ValC b W' p a := CelV.keep h hb k
theorem ValC.mono {b c : Nat} {W : World} {p : Addr} {a : Gv} (h : ValC b W p a) (hc : c ≤ b) : ValC c W p a := h
/-- a row of values -/
def RowW (b : Nat) (W : World) (v : Value) (n : Nat) (C : Nat → Gv) : Prop :=
  ∃ pa cap, v = .slice pa n cap ∧ (0 < n → ∃ a : Addr, pa = some a ∧ n ≤ cap ∧ b ≤ a.block ∧ ∀ i, i < n → ValC b W (a.add (i * 4)) (C i))
theorem RowW.keep {b : Nat} {W W' : World} {v : Value} {n : Nat} {C : Nat → Gv} (h : RowW b W v n C) (k : Kb b W W') : RowW b W' v n C := by
  obtain ⟨pa, cap, h1, h2⟩ := h
  refine ⟨pa, cap, h1, fun hn => ?_⟩
  obtain ⟨a, e1, e2, e0, e3⟩ := h2 hn
  exact ⟨a, e1, e2, e0, fun i hi => (e3 i hi).keep (by rw [add_block]; exact e0) k⟩
theorem RowW.mono {b c : Nat} {W : World} {v : Value} {n : Nat} {C : Nat → Gv} (h : RowW b W v n C) (hc : c ≤ b) : RowW c W v n C := by
  obtain ⟨pa, cap, h1, h2⟩ := h
  refine ⟨pa, cap, h1, fun hn => ?_⟩
  obtain ⟨a, e1, e2, e0, e3⟩ := h2 hn
  exact ⟨a, e1, e2, Nat.le_trans hc e0, fun i hi => (e3 i hi).mono hc⟩
/-- what a marking from k on writes into cell j of a row of values -/
def mkv (k : Int) (j : Nat) : Value := if j % 4 = 3 then .string (⟨#[109]⟩ ++ mtl (k + (j : Int)).toNat ⟨#[]⟩) else .int .i64 (k + (j : Int))
theorem mkv_int {k K : Int} {j : Nat} (h : j % 4 ≠ 3) (e : k + (j : Int) = K) : mkv k j = .int .i64 K := by
  unfold mkv
  rw [if_neg h, e]
theorem mkv_str {k K : Int} {j : Nat} (h : j % 4 = 3) (e : k + (j : Int) = K) : mkv k j = .string (⟨#[109]⟩ ++ mtl K.toNat ⟨#[]⟩) := by
  unfold mkv
  rw [if_pos h, e]
/-- a row of values that lies alone in a block -/
def OwV (W : World) (v : Value) (b c : Nat) : Prop := ∃ p cap, v = .slice p c cap ∧ (0 < c → p = some ⟨b, 0, none⟩ ∧ c ≤ cap ∧ (∀ j, j < c * 4 → ∃ u, W.cell? ⟨b, j, none⟩ = some u) ∧ ∀ j, W.frozen? ⟨b, j, none⟩ = false)
/-- such a row, marked from k on -/
def MdV (W : World) (v : Value) (b c : Nat) (k : Int) : Prop := ∃ p cap, v = .slice p c cap ∧ (0 < c → p = some ⟨b, 0, none⟩ ∧ c ≤ cap ∧ ∀ j, j < c * 4 → W.cell? ⟨b, j, none⟩ = some (mkv k j))
theorem MdV.block {W W' : World} {v : Value} {b c : Nat} {k : Int} (h : MdV W v b c k) (hb : 0 < c → W'.heap[b]? = W.heap[b]?) : MdV W' v b c k := by
  obtain ⟨p, cap, h1, h2⟩ := h
  exact ⟨p, cap, h1, fun hc => ⟨(h2 hc).1, (h2 hc).2.1, fun j hj => (World.cell?_of_block (hb hc)).trans ((h2 hc).2.2 j hj)⟩⟩
theorem OwV.block {W W' : World} {v : Value} {b c : Nat} (h : OwV W v b c) (hb : 0 < c → W'.heap[b]? = W.heap[b]?) : OwV W' v b c := by
  obtain ⟨p, cap, h1, h2⟩ := h
  refine ⟨p, cap, h1, fun hc => ⟨(h2 hc).1, (h2 hc).2.1, fun j hj => ?_, fun j => (World.frozen?_of_block (hb hc)).trans ((h2 hc).2.2.2 j)⟩⟩
  obtain ⟨u, hu⟩ := (h2 hc).2.2.1 j hj
  exact ⟨u, (World.cell?_of_block (hb hc)).trans hu⟩
set_option maxHeartbeats 4000000 in
theorem sz_st {a : Gv} (w : World) (l : Int) (hx : (a.x.size : Int) < 140737488355328) (hl0 : 0 ≤ l) (hl : l ≤ 1048576) :
    Calls Try.prog 41 #[gvv a, .int .i64 l] w (Szd a.x.size l w) := by
  unfold gvv
  have hs0 : (0 : Int) ≤ (a.x.size : Int) := Int.natCast_nonneg _
  generalize hX : a.x.size = X at *
  go_enter Try.func41, Try.ntmps41
  rcases Int.lt_or_le (l - (X : Int)) 0 with c | c
  · go_wp2_with fail
    go_ret
    exact ⟨-1, rfl, fun h => by omega, by omega, by omega, kb_alloc _ _ _⟩
  · have c' : ¬ (l - (X : Int) < 0) := by omega
    go_wp2_with fail
    go_ret
    exact ⟨l - (X : Int), rfl, fun h => by omega, by omega, by omega, kb_alloc _ _ _⟩
set_option maxHeartbeats 4000000 in
theorem szr_sts {pa : Option Addr} {n ca : Nat} {C : Nat → Gv} {s : Nat → Nat} (w : World) (l : Int) (hn : (n : Int) < 140737488355328)
    (ha : 0 < n → ∃ a : Addr, pa = some a ∧ n ≤ ca ∧ ∀ i, i < n → CelV w (a.add (i * 4)) (C i))
    (he : ∀ i, i < n → ∀ W (l : Int), Kb 0 w W → 0 ≤ l → l ≤ 1048576 → Calls Try.prog 41 #[gvv (C i), .int .i64 l] W (Szd (s i) l W)) (hl0 : 0 ≤ l) (hl : l ≤ 1048576) :
    Calls Try.prog 21 #[.slice pa n ca, .int .i64 l] w (Szd (n + sm s n) l w) := by
  have HA : Hid ((0 < n → ∃ a : Addr, pa = some a ∧ n ≤ ca ∧ ∀ i, i < n → CelV w (a.add (i * 4)) (C i)) ∧ ∀ i, i < n → ∀ W (l : Int), Kb 0 w W → 0 ≤ l → l ≤ 1048576 → Calls Try.prog 41 #[gvv (C i), .int .i64 l] W (Szd (s i) l W)) := (⟨ha, he⟩ : _ ∧ _)
  clear ha he
  go_enter Try.func21, Try.ntmps21
  rcases Int.lt_or_le (l - n) 0 with h | h
  · clear HA
    go_wp2_with fail
    go_ret
    exact ⟨-1, rfl, fun f => by omega, by omega, by omega, Kb.refl _ _⟩
  · have h' : ¬ (l - n < 0) := by omega
    go_wp2_with fail
    go_loopw [1, 5] (fun s1 s5 wr => ∃ (i : Nat) (x : Int), s1 = .int .i64 x ∧ s5 = .int .i64 (i : Int) ∧ i ≤ n ∧ 0 ≤ x ∧ x ≤ l ∧ Hid (x + (n : Int) + (sm s i : Int) ≤ l ∧ Kb 0 w wr)) (fun _ s5 _ => n - (intOf s5).toNat)
    case atStart => exact ⟨0, l - n, rfl, rfl, Nat.zero_le _, by omega, by omega, (⟨by show l - n + n + ((0 : Nat) : Int) ≤ l; omega, Kb.refl _ _⟩ : _ ∧ _)⟩
    case round =>
      obtain ⟨i, x, rfl, rfl, hin, hx0, hx1, HX⟩ := hrel
      rcases Nat.lt_or_ge i n with hi | hi
      · have hA := (show (0 < n → ∃ a : Addr, pa = some a ∧ n ≤ ca ∧ ∀ i, i < n → CelV w (a.add (i * 4)) (C i)) ∧ ∀ i, i < n → ∀ W (l : Int), Kb 0 w W → 0 ≤ l → l ≤ 1048576 → Calls Try.prog 41 #[gvv (C i), .int .i64 l] W (Szd (s i) l W) from HA)
        have hX := (show x + (n : Int) + (sm s i : Int) ≤ l ∧ Kb 0 w wr from HX)
        obtain ⟨a, rfl, hca, hra⟩ := hA.1 (by omega)
        obtain ⟨d0, d1, d2, d3⟩ := (hra i hi).keep (Nat.zero_le _) hX.2
        have HS : Hid (Calls Try.prog 41 #[gvv (C i), .int .i64 x] wr (Szd (s i) x wr)) := hA.2 i hi wr x hX.2 hx0 (by omega)
        have hiI : (i : Int) < (n : Int) := by omega
        clear hA hX hra HA hin
        go_wp2_with fail
        refine (show Calls Try.prog 41 #[gvv (C i), .int .i64 x] wr (Szd (s i) x wr) from HS).mono ?_
        rintro e w6 ⟨r, rfl, hs, hm1, hr1, hb6⟩
        have hX := (show x + (n : Int) + (sm s i : Int) ≤ l ∧ Kb 0 w wr from HX)
        have HB6 : Hid ((0 ≤ r → r + (n : Int) + (sm s (i + 1) : Int) ≤ l) ∧ Kb 0 w w6) := (⟨fun h => by
          have := hs h
          have := hX.1
          show r + (n : Int) + ((sm s i + s i : Nat) : Int) ≤ l
          omega, hX.2.trans hb6⟩ : _ ∧ _)
        clear HS HX hX hb6 hs d0 d1 d2 d3
        rcases Int.lt_or_le r 0 with hr0 | hr0
        · go_wp2_with fail
          go_ret
          exact ⟨-1, rfl, fun f => by omega, by omega, by omega, HB6.2⟩
        · have hr0' : ¬ (r < 0) := by omega
          have hr2 : r ≤ l := by omega
          have hnI : (n : Int) ≤ 1048576 := by omega
          clear hn h h' hm1 hx0 hx1 hr1
          go_wp2_with fail
          go_roundw
          case rel => exact ⟨i + 1, r, rfl, by go_num, by omega, hr0, hr2, (⟨HB6.1 hr0, HB6.2⟩ : _ ∧ _)⟩
          case measure => simp [intOf]; omega
      · obtain rfl : i = n := by omega
        clear HA
        go_wp2_with fail
        go_ret
        have hX := (show x + (i : Int) + (sm s i : Int) ≤ l ∧ Kb 0 w wr from HX)
        exact ⟨x, rfl, fun _ => by have := hX.1; omega, by omega, hx1, hX.2⟩
theorem szd_sts {va : Value} {n : Nat} {A : Nat → Gv} (w : World) (l : Int) (ha : RowW 0 w va n A) (hn : (n : Int) < 140737488355328) (hA : ∀ i, i < n → ((A i).x.size : Int) < 140737488355328) (hl0 : 0 ≤ l) (hl : l ≤ 1048576) :
    Calls Try.prog 21 #[va, .int .i64 l] w (Szd (n + sm (fun i => (A i).x.size) n) l w) := by
  obtain ⟨pa, ca, rfl, ha2⟩ := ha
  refine szr_sts w l hn (fun h0 => ?_) (fun i hi W l k l0 l1 => sz_st W l (hA i hi) l0 l1) hl0 hl
  obtain ⟨a, e1, e2, -, e3⟩ := ha2 h0
  exact ⟨a, e1, e2, e3⟩
set_option maxHeartbeats 4000000 in
theorem to_st (a : Gv) (w : World) : Calls Try.prog 47 #[gvv a] w fun e w' => e = .returned (gvv a) ∧ Kb 0 w w' := by
  unfold gvv
  go_enter Try.func47, Try.ntmps47
  go_wp2_with fail
  refine bodyPost_ret (by simp [results, Try.results47, go_sem]; rfl) rfl ?_
  exact ⟨rfl, kb_alloc3 _ _ _ _ _⟩
set_option maxHeartbeats 4000000 in
theorem eq_st (u : Gv) (w : World) : Calls Try.prog 62 #[gvv u, gvv u] w fun e w' => e = .returned (.bool true) ∧ Kb 0 w w' := by
  unfold gvv
  obtain ⟨k, m, x, r⟩ := u
  have h1 : (k != k) = false := by simp
  have h2 : (m != m) = false := by simp
  have h3 : (r != r) = false := by simp
  go_enter Try.func62, Try.ntmps62
  go_wp2_with fail
  go_ret
  exact ⟨rfl, kb_alloc2 _ _ _ _⟩
set_option maxHeartbeats 8000000 in
theorem eq_sts {va vb : Value} {n : Nat} {C : Nat → Gv} (w : World) (ha : RowW 0 w va n C) (hb : RowW 0 w vb n C) (hn : n ≤ 1048576)  :
    Calls Try.prog 31 #[va, vb] w fun e w' => e = .returned (.bool true) ∧ Kb 0 w w' := by
  obtain ⟨pa, ca, rfl, ha2⟩ := ha
  obtain ⟨pb, cb, rfl, hb2⟩ := hb
  have HA : Hid ((0 < n → ∃ a : Addr, pa = some a ∧ n ≤ ca ∧ 0 ≤ a.block ∧ ∀ i, i < n → ValC 0 w (a.add (i * 4)) (C i)) ∧ (0 < n → ∃ a : Addr, pb = some a ∧ n ≤ cb ∧ 0 ≤ a.block ∧ ∀ i, i < n → ValC 0 w (a.add (i * 4)) (C i))) := (⟨ha2, hb2⟩ : _ ∧ _)
  have hnI : (n : Int) ≤ 1048576 := by omega
  clear ha2 hb2 hn 
  go_enter Try.func31, Try.ntmps31
  go_wp2_with fail
  go_loopw [5] (fun s5 wr => ∃ i : Nat, s5 = .int .i64 (i : Int) ∧ i ≤ n ∧ Hid (Kb 0 w wr)) (fun s5 _ => n - (intOf s5).toNat)
  case atStart => exact ⟨0, rfl, Nat.zero_le _, Kb.refl _ _⟩
  case round =>
    obtain ⟨i, rfl, hin, HB⟩ := hrel
    rcases Nat.lt_or_ge i n with hi | hi
    · have hA := (show (0 < n → ∃ a : Addr, pa = some a ∧ n ≤ ca ∧ 0 ≤ a.block ∧ ∀ i, i < n → ValC 0 w (a.add (i * 4)) (C i)) ∧ (0 < n → ∃ a : Addr, pb = some a ∧ n ≤ cb ∧ 0 ≤ a.block ∧ ∀ i, i < n → ValC 0 w (a.add (i * 4)) (C i)) from HA)
      obtain ⟨qa, rfl, hca, -, hra⟩ := hA.1 (by omega)
      obtain ⟨qb, rfl, hcb, -, hrb⟩ := hA.2 (by omega)
      have hiI : (i : Int) < (n : Int) := by omega
      have ca := (hra i hi).keep (Nat.zero_le _) HB
      have cb := (hrb i hi).keep (Nat.zero_le _) HB
      have heq : ∀ W', Kb 0 wr W' → Calls Try.prog 62 #[gvv (C i), gvv (C i)] W' fun e w' => e = .returned (.bool true) ∧ Kb 0 W' w' := fun W' _ => eq_st (C i) W'
      replace heq : ∀ W', W'.heap = wr.heap → W'.os = wr.os → W'.output = wr.output → Calls Try.prog 62 #[gvv (C i), gvv (C i)] W' fun e w' => e = .returned (.bool true) ∧ Kb 0 wr w' := fun W' h0 h1 h2 => by
        have kk : Kb 0 wr W' := ⟨h1, h2, by rw [h0]; exact Nat.le_refl _, fun k _ _ => by rw [h0]⟩
        refine (heq W' kk).mono ?_
        rintro e w' ⟨rfl, k⟩
        exact ⟨rfl, kk.trans k⟩
      obtain ⟨a0, a1, a2, a3⟩ := ca
      obtain ⟨b0, b1, b2, b3⟩ := cb
      clear hra hrb hA HA
      generalize C i = u at *
      obtain ⟨xk, xm, xx, xr⟩ := u
      unfold gvv at heq
      dsimp only at a0 a1 a2 a3 b0 b1 b2 b3 heq
      have HKEEP : Hid (∀ (W' : World), Kb 0 wr W' → W'.cell? (qa.add (i * 4)) = some (.int .i64 xk) ∧ W'.cell? ⟨(qa.add (i * 4)).block, (qa.add (i * 4)).off + 1, none⟩ = some (.int .i64 xm) ∧ W'.cell? ⟨(qa.add (i * 4)).block, (qa.add (i * 4)).off + 2, none⟩ = some (.int .i64 xr) ∧ W'.cell? ⟨(qa.add (i * 4)).block, (qa.add (i * 4)).off + 3, none⟩ = some (.string xx) ∧ W'.cell? (qb.add (i * 4)) = some (.int .i64 xk) ∧ W'.cell? ⟨(qb.add (i * 4)).block, (qb.add (i * 4)).off + 1, none⟩ = some (.int .i64 xm) ∧ W'.cell? ⟨(qb.add (i * 4)).block, (qb.add (i * 4)).off + 2, none⟩ = some (.int .i64 xr) ∧ W'.cell? ⟨(qb.add (i * 4)).block, (qb.add (i * 4)).off + 3, none⟩ = some (.string xx)) := by
        show ∀ (W' : World), _
        intro W' k
        exact ⟨k.cell a0, k.cell a1, k.cell a2, k.cell a3, k.cell b0, k.cell b1, k.cell b2, k.cell b3⟩
      have HEQ : Hid (∀ W', W'.heap = wr.heap → W'.os = wr.os → W'.output = wr.output → Calls Try.prog 62 #[.agg #[.int .i64 xk, .int .i64 xm, .int .i64 xr, .string xx], .agg #[.int .i64 xk, .int .i64 xm, .int .i64 xr, .string xx]] W' fun e w' => e = .returned (.bool true) ∧ Kb 0 wr w') := heq
      clear hin heq
      go_wp2_with fail
      go_region_held_law (fun W' => W'.cell? (qa.add (i * 4)) = some (.int .i64 xk) ∧ W'.cell? ⟨(qa.add (i * 4)).block, (qa.add (i * 4)).off + 1, none⟩ = some (.int .i64 xm) ∧ W'.cell? ⟨(qa.add (i * 4)).block, (qa.add (i * 4)).off + 2, none⟩ = some (.int .i64 xr) ∧ W'.cell? ⟨(qa.add (i * 4)).block, (qa.add (i * 4)).off + 3, none⟩ = some (.string xx) ∧ W'.cell? (qb.add (i * 4)) = some (.int .i64 xk) ∧ W'.cell? ⟨(qb.add (i * 4)).block, (qb.add (i * 4)).off + 1, none⟩ = some (.int .i64 xm) ∧ W'.cell? ⟨(qb.add (i * 4)).block, (qb.add (i * 4)).off + 2, none⟩ = some (.int .i64 xr) ∧ W'.cell? ⟨(qb.add (i * 4)).block, (qb.add (i * 4)).off + 3, none⟩ = some (.string xx)) (first | exact ⟨a0, a1, a2, a3, b0, b1, b2, b3⟩ | exact (show ∀ (W' : World), _ from HKEEP) _ k5)
        ((go_at_call 62; refine ((show ∀ W', W'.heap = wr.heap → W'.os = wr.os → W'.output = wr.output → Calls Try.prog 62 #[.agg #[.int .i64 xk, .int .i64 xm, .int .i64 xr, .string xx], .agg #[.int .i64 xk, .int .i64 xm, .int .i64 xr, .string xx]] W' fun e w' => e = .returned (.bool true) ∧ Kb 0 wr w' from HEQ) _ (by exact rfl) (by exact rfl) (by exact rfl)).mono ?_; rintro e w5 ⟨rfl, k5⟩))
      all_goals
        have HB5 : Hid (Kb 0 w w5) := (show Kb 0 w wr from HB).trans k5
        clear HB HKEEP HEQ k5 a0 a1 a2 a3 b0 b1 b2 b3
        go_wp2_with fail
        go_roundw
        case rel => exact ⟨i + 1, by go_num, by omega, HB5⟩
        case measure => simp [intOf]; omega
    · obtain rfl : i = n := by omega
      clear HA
      go_wp2_with fail
      go_ret
      exact ⟨rfl, HB⟩
/-- a row of values in a block of its own, not before b -/
def RowX (b : Nat) (W : World) (v : Value) (c : Nat) (C : Nat → Gv) : Prop := RowW b W v c C ∧ ∃ bb, b ≤ bb ∧ bb < W.heap.size ∧ OwV W v bb c
theorem RowX.keep {b : Nat} {W W' : World} {v : Value} {c : Nat} {C : Nat → Gv} (h : RowX b W v c C) (k : Kb b W W') : RowX b W' v c C := by
  obtain ⟨h1, bb, h2, h3, h4⟩ := h
  exact ⟨h1.keep k, bb, h2, Nat.lt_of_lt_of_le h3 k.size, h4.block (fun _ => k.block bb h2 h3)⟩
theorem RowX.mono {b d : Nat} {W : World} {v : Value} {c : Nat} {C : Nat → Gv} (h : RowX b W v c C) (hd : d ≤ b) : RowX d W v c C := by
  obtain ⟨h1, bb, h2, h3⟩ := h
  exact ⟨h1.mono hd, bb, Nat.le_trans hd h2, h3⟩
set_option maxHeartbeats 8000000 in
theorem to_sts2 {va : Value} {n : Nat} {C : Nat → Gv} (w : World) (ha : RowW 0 w va n C) (hn : n ≤ 1048576)  :
    Calls Try.prog 26 #[va] w fun e w' => ∃ v, e = .returned v ∧ RowX w.heap.size w' v n C ∧ Kb 0 w w' := by
  obtain ⟨pa, ca, rfl, ha2⟩ := ha
  have hnI : (n : Int) ≤ 1048576 := by omega
  have hmk := run_make (P := Try.prog) w 29 69 Try.t69 (.agg #[.int .i64 0, .int .i64 0, .int .i64 0, .string ⟨#[]⟩]) Try.underlying29 (by kernel_rfl) (by kernel_rfl) .i64 .i64 (n : Int) (n : Int) (by omega) (Int.le_refl _) (by show (40 : Int) * (n : Int) ≤ _; omega) (by omega)
  rw [Int.toNat_natCast] at hmk
  obtain ⟨w1, hw1⟩ : ∃ w1, w1 = w.alloc (.cells (madeCells (.agg #[.int .i64 0, .int .i64 0, .int .i64 0, .string ⟨#[]⟩] : Value).cells (n * 4)) 69) := ⟨_, rfl⟩
  have hmk2 := hmk
  rw [show n * Try.t69.size = n * 4 from rfl, ← hw1] at hmk2
  clear hmk
  have hk1 : Kb 0 w w1 := by rw [hw1]; exact kb_alloc _ _ _
  obtain ⟨G, hG⟩ : ∃ G, G = w.heap.size := ⟨_, rfl⟩
  have HI0 : Hid (∃ E : Nat → List Value, Mk 4 w1 G n E 0 w1 ∧ ∀ j, j < 0 → E j = [.int .i64 (C j).k, .int .i64 (C j).m, .int .i64 (C j).r, .string (C j).x]) := by
    refine ⟨fun _ => [], ?_, fun j hj => by omega⟩
    rw [hG, hw1]
    exact mk_zero w _ 4 _ n _ rfl
  have HA : Hid ((0 < n → ∃ a : Addr, pa = some a ∧ n ≤ ca ∧ 0 ≤ a.block ∧ ∀ i, i < n → ValC 0 w (a.add (i * 4)) (C i)) ∧ Kb 0 w w1 ∧ G = w.heap.size) := (⟨ha2, hk1, hG⟩ : _ ∧ _)
  rw [← hG] at hmk2
  clear ha2 hk1 hw1 hn hG 
  go_enter Try.func26, Try.ntmps26
  go_wp2_with fail
  go_loopw [4] (fun s4 wr => ∃ i : Nat, s4 = .int .i64 (i : Int) ∧ i ≤ n ∧ Hid (∃ E : Nat → List Value, Mk 4 w1 G n E i wr ∧ ∀ j, j < i → E j = [.int .i64 (C j).k, .int .i64 (C j).m, .int .i64 (C j).r, .string (C j).x])) (fun s4 _ => n - (intOf s4).toNat)
  case atStart => exact ⟨0, rfl, Nat.zero_le _, HI0⟩
  case round =>
    clear HI0 hmk2
    obtain ⟨i, rfl, hin, HI⟩ := hrel
    obtain ⟨E, hM, hR⟩ := (show ∃ E : Nat → List Value, Mk 4 w1 G n E i wr ∧ ∀ j, j < i → E j = [.int .i64 (C j).k, .int .i64 (C j).m, .int .i64 (C j).r, .string (C j).x] from HI)
    have hA := (show (0 < n → ∃ a : Addr, pa = some a ∧ n ≤ ca ∧ 0 ≤ a.block ∧ ∀ i, i < n → ValC 0 w (a.add (i * 4)) (C i)) ∧ Kb 0 w w1 ∧ G = w.heap.size from HA)
    have hBW : Kb 0 w wr := by
      have hG := hA.2.2
      have hA2 := hA.2.1
      exact ⟨hM.os.trans hA2.os, hM.output.trans hA2.output, Nat.le_trans hA2.size hM.size, fun b _ hb => (hM.block b (Nat.lt_of_lt_of_le hb hA2.size) (by omega)).trans (hA2.block b (Nat.zero_le _) hb)⟩
    rcases Nat.lt_or_ge i n with hi | hi
    · have hiI : (i : Int) < (n : Int) := by omega
      obtain ⟨a, rfl, hca, _, hra⟩ := hA.1 (by omega)
      obtain ⟨d0, d1, d2, d3⟩ := (hra i hi).keep (Nat.zero_le _) hBW
      have HT : Hid (Calls Try.prog 47 #[gvv (C i)] wr fun e w' => e = .returned (gvv (C i)) ∧ Kb 0 wr w') := to_st (C i) wr
      have HS : Hid (∀ w6 , Kb 0 wr w6 → (∀ t, t < 4 → ∃ u, w6.cell? ⟨G, i * 4 + t, none⟩ = some u) ∧ (∀ j, w6.frozen? ⟨G, j, none⟩ = false) ∧ ∃ E : Nat → List Value, Mk 4 w1 G n E (i + 1) (setL w6 G (i * 4) [.int .i64 (C i).k, .int .i64 (C i).m, .int .i64 (C i).r, .string (C i).x]) ∧ ∀ j, j < i + 1 → E j = [.int .i64 (C j).k, .int .i64 (C j).m, .int .i64 (C j).r, .string (C j).x]) := by
        show ∀ w6 , _
        intro w6  k6 
        have h6 := hM.kb k6
        have hgl := Nat.lt_of_lt_of_le hM.gl hM.size
        have kl : Kb (G + 1) w6 (setL w6 G (i * 4) [.int .i64 (C i).k, .int .i64 (C i).m, .int .i64 (C i).r, .string (C i).x]) := ⟨(setL_os _ _ _ _).1, (setL_os _ _ _ _).2, by rw [setL_size]; exact Nat.le_refl _, fun k h1 _ => setL_block _ _ (by omega) _ _ _⟩
        refine ⟨h6.rest i (Nat.le_refl _) hi, h6.fz, _, h6.step hi rfl, fun j hj => ?_⟩
        by_cases e : j = i
        · subst e
          exact if_pos rfl
        · rw [if_neg e]
          exact hR j (by omega)
      clear hA HA hM hR HI hra hin hBW 
      go_wp2_with fail
      refine (show Calls Try.prog 47 #[gvv (C i)] wr fun e w' => e = .returned (gvv (C i)) ∧ Kb 0 wr w' from HT).mono ?_
      rintro e w6 ⟨rfl, k6⟩
      obtain ⟨hc, hf, hT⟩ := (show ∀ w6 , _ from HS) w6 k6
      have HTT : Hid (∃ E : Nat → List Value, Mk 4 w1 G n E (i + 1) (setL w6 G (i * 4) [.int .i64 (C i).k, .int .i64 (C i).m, .int .i64 (C i).r, .string (C i).x]) ∧ ∀ j, j < i + 1 → E j = [.int .i64 (C j).k, .int .i64 (C j).m, .int .i64 (C j).r, .string (C j).x]) := hT
      obtain ⟨u0, h0⟩ := hc 0 (by omega)
      obtain ⟨u1, h1⟩ := hc 1 (by omega)
      obtain ⟨u2, h2⟩ := hc 2 (by omega)
      obtain ⟨u3, h3⟩ := hc 3 (by omega)
      rw [Nat.add_zero] at h0
      have e0 := hf (i * 4)
      have e1 := hf (i * 4 + 1)
      have e2 := hf (i * 4 + 2)
      have e3 := hf (i * 4 + 3)
      clear hc hf hT HS HT
      skip
      clear k6 d0 d1 d2 d3
      unfold gvv
      go_wp2_with fail
      go_roundw
      case rel => exact ⟨i + 1, by go_num, by omega, HTT⟩
      case measure => simp [intOf]; omega
    · obtain rfl : i = n := by omega
      have HE : Hid (Mk 4 w1 G i E i wr ∧ (∀ j, j < i → E j = [.int .i64 (C j).k, .int .i64 (C j).m, .int .i64 (C j).r, .string (C j).x]) ∧ Kb 0 w wr ∧ G = w.heap.size) := (⟨hM, hR, hBW, hA.2.2⟩ : _ ∧ _ ∧ _ ∧ _)
      clear HI hM hR hA HA hBW
      go_wp2_with fail
      go_ret
      obtain ⟨hM, hR, hB, hG⟩ := (show Mk 4 w1 G i E i wr ∧ (∀ j, j < i → E j = [.int .i64 (C j).k, .int .i64 (C j).m, .int .i64 (C j).r, .string (C j).x]) ∧ Kb 0 w wr ∧ G = w.heap.size from HE)
      have hcl : ∀ j, j < i → ValC w.heap.size wr ((⟨G, 0, none⟩ : Addr).add (j * 4)) (C j) := fun j hj => by
        rw [addr0]
        have hce := hM.ce j hj
        rw [hR j hj] at hce
        exact CelV.of hce
      refine ⟨_, rfl, ⟨⟨_, _, rfl, fun _ => ⟨⟨G, 0, none⟩, rfl, Nat.le_refl _, (by show w.heap.size ≤ G; omega), hcl⟩⟩, G, by omega, Nat.lt_of_lt_of_le hM.gl hM.size, ⟨_, _, rfl, fun _ => ⟨rfl, Nat.le_refl _, fun j hj => ?_, hM.fz⟩⟩⟩, hB⟩
      have hq : j / 4 < i := by omega
      have hce := hM.ce (j / 4) hq (j % 4) (by omega)
      rw [hR _ hq, show j / 4 * 4 + j % 4 = j by omega] at hce
      have h4 : j % 4 < 4 := by omega
      have : (j % 4) < ([.int .i64 (C (j / 4)).k, .int .i64 (C (j / 4)).m, .int .i64 (C (j / 4)).r, .string (C (j / 4)).x] : List Value).length := h4
      exact ⟨_, hce.trans (List.getElem?_eq_getElem this)⟩
end Go.Proofs.Ytdkmnggdelchkaa.Fo.Js
