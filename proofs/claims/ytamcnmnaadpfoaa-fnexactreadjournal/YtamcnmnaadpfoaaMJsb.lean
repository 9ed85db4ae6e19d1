import Derived.Deep.RegionHeldLaw
import Derived.Deep.RegionHeld3
import Derived.Test.YtamcnmnaadpfoaaMJtc
import Derived.Test.YtamcnmnaadpfoaaMGbb
import Derived.Test.YtamcnmnaadpfoaaMGeb
import Derived.Test.YtamcnmnaadpfoaaMBae
namespace Go.Proofs.Ytamcnmnaadpfoaa.Fo.Js
open Go.ChangeShapes Go.WideShapes Go.ChangeAt Go.RowKit
set_option linter.unusedVariables false
set_option maxRecDepth 100000
def gvv (a : Gv) : Value := .agg #[.int .i64 a.k, .int .i64 a.m, .int .i64 a.r, .string a.x]
structure CelV (W : World) (b : Addr) (a : Gv) : Prop where
  c0 : W.cell? b = some (.int .i64 a.k)
  c1 : W.cell? ⟨b.block, b.off + 1, none⟩ = some (.int .i64 a.m)
  c2 : W.cell? ⟨b.block, b.off + 2, none⟩ = some (.int .i64 a.r)
  c3 : W.cell? ⟨b.block, b.off + 3, none⟩ = some (.string a.x)
theorem CelV.keep {W W' : World} {c : Nat} {b : Addr} {a : Gv} (h : CelV W b a) (hb : c ≤ b.block) (k : Kb c W W') : CelV W' b a :=
  ⟨k.cellA hb h.c0, k.cellA hb h.c1, k.cellA hb h.c2, k.cellA hb h.c3⟩
theorem CelV.of {W : World} {g o : Nat} {a : Gv} (h : ∀ t, t < 4 → W.cell? ⟨g, o + t, none⟩ = ([.int .i64 a.k, .int .i64 a.m, .int .i64 a.r, .string a.x] : List Value)[t]?) : CelV W ⟨g, o, none⟩ a :=
  ⟨h 0 (by omega), h 1 (by omega), h 2 (by omega), h 3 (by omega)⟩
def ValC (b : Nat) (W : World) (p : Addr) (a : Gv) : Prop := CelV W p a
theorem ValC.keep {b : Nat} {W W' : World} {p : Addr} {a : Gv} (h : ValC b W p a) (hb : b ≤ p.block) (k : Kb b W W') : ValC b W' p a := CelV.keep h hb k
theorem ValC.mono {b c : Nat} {W : World} {p : Addr} {a : Gv} (h : ValC b W p a) (hc : c ≤ b) : ValC c W p a := h
/-- a row of values -/
def RowW (b : Nat) (W : World) (v : Value) (n : Nat) (C : Nat → Gv) : Prop :=
  ∃ pa cap, v = .slice pa n cap ∧ (0 < n → ∃ a : Addr, pa = some a ∧ n ≤ cap ∧ b ≤ a.block ∧ ∀ i, i < n → ValC b W (a.add (i * 4)) (C i))
theorem RowW.keep {b : Nat} {W W' : World} {v : Value} {n : Nat} {C : Nat → Gv} (h : RowW b W v n C) (k : Kb b W W') : RowW b W' v n C := by
  obtain ⟨pa, cap, h1, h2⟩ := h
  refine ⟨pa, cap, h1, fun hn => ?_⟩
  obtain ⟨a, e1, e2, e0, e3⟩ := h2 hn
  exact ⟨a, e1, e2, e0, fun i hi => (e3 i hi).keep (by rw [add_block]; exact e0) k⟩
theorem RowW.mono {b c : Nat} {W : World} {v : Value} {n : Nat} {C : Nat → Gv} (h : RowW b W v n C) (hc : c ≤ b) : RowW c W v n C := by
  obtain ⟨pa, cap, h1, h2⟩ := h
  refine ⟨pa, cap, h1, fun hn => ?_⟩
  obtain ⟨a, e1, e2, e0, e3⟩ := h2 hn
  exact ⟨a, e1, e2, Nat.le_trans hc e0, fun i hi => (e3 i hi).mono hc⟩
/-- what a marking from k on writes into cell j of a row of values -/
def mkv (k : Int) (j : Nat) : Value := if j % 4 = 3 then .string (⟨#[109]⟩ ++ mtl (k + (j : Int)).toNat ⟨#[]⟩) else .int .i64 (k + (j : Int))
theorem mkv_int {k K : Int} {j : Nat} (h : j % 4 ≠ 3) (e : k + (j : Int) = K) : mkv k j = .int .i64 K := by
  unfold mkv
  rw [if_neg h, e]
theorem mkv_str {k K : Int} {j : Nat} (h : j % 4 = 3) (e : k + (j : Int) = K) : mkv k j = .string (⟨#[109]⟩ ++ mtl K.toNat ⟨#[]⟩) := by
  unfold mkv
  rw [if_pos h, e]
/-- a row of values that lies alone in a block -/
def OwV (W : World) (v : Value) (b c : Nat) : Prop := ∃ p cap, v = .slice p c cap ∧ (0 < c → p = some ⟨b, 0, none⟩ ∧ c ≤ cap ∧ (∀ j, j < c * 4 → ∃ u, W.cell? ⟨b, j, none⟩ = some u) ∧ ∀ j, W.frozen? ⟨b, j, none⟩ = false)
/-- such a row, marked from k on -/
def MdV (W : World) (v : Value) (b c : Nat) (k : Int) : Prop := ∃ p cap, v = .slice p c cap ∧ (0 < c → p = some ⟨b, 0, none⟩ ∧ c ≤ cap ∧ ∀ j, j < c * 4 → W.cell? ⟨b, j, none⟩ = some (mkv k j))
theorem MdV.block {W W' : World} {v : Value} {b c : Nat} {k : Int} (h : MdV W v b c k) (hb : 0 < c → W'.heap[b]? = W.heap[b]?) : MdV W' v b c k := by
  obtain ⟨p, cap, h1, h2⟩ := h
  exact ⟨p, cap, h1, fun hc => ⟨(h2 hc).1, (h2 hc).2.1, fun j hj => (World.cell?_of_block (hb hc)).trans ((h2 hc).2.2 j hj)⟩⟩
theorem OwV.block {W W' : World} {v : Value} {b c : Nat} (h : OwV W v b c) (hb : 0 < c → W'.heap[b]? = W.heap[b]?) : OwV W' v b c := by
  obtain ⟨p, cap, h1, h2⟩ := h
  refine ⟨p, cap, h1, fun hc => ⟨(h2 hc).1, (h2 hc).2.1, fun j hj => ?_, fun j => (World.frozen?_of_block (hb hc)).trans ((h2 hc).2.2.2 j)⟩⟩
  obtain ⟨u, hu⟩ := (h2 hc).2.2.1 j hj
  exact ⟨u, (World.cell?_of_block (hb hc)).trans hu⟩
set_option maxHeartbeats 4000000 in
theorem eq_st (u : Gv) (w : World) : Calls Try.prog 83 #[gvv u, gvv u] w fun e w' => e = .returned (.bool true) ∧ Kb 0 w w' := by
  unfold gvv
  obtain ⟨k, m, x, r⟩ := u
  have h1 : (k != k) = false := by simp
  have h2 : (m != m) = false := by simp
  have h3 : (r != r) = false := by simp
  go_enter Try.func83, Try.ntmps83
  go_wp2_with fail
  go_ret
  exact ⟨rfl, kb_alloc2 _ _ _ _⟩
set_option maxHeartbeats 8000000 in
theorem eq_sts {va vb : Value} {n : Nat} {C : Nat → Gv} (w : World) (ha : RowW 0 w va n C) (hb : RowW 0 w vb n C) (hn : n ≤ 1048576)  :
    Calls Try.prog 47 #[va, vb] w fun e w' => e = .returned (.bool true) ∧ Kb 0 w w' := by
  obtain ⟨pa, ca, rfl, ha2⟩ := ha
  obtain ⟨pb, cb, rfl, hb2⟩ := hb
  have HA : Hid ((0 < n → ∃ a : Addr, pa = some a ∧ n ≤ ca ∧ 0 ≤ a.block ∧ ∀ i, i < n → ValC 0 w (a.add (i * 4)) (C i)) ∧ (0 < n → ∃ a : Addr, pb = some a ∧ n ≤ cb ∧ 0 ≤ a.block ∧ ∀ i, i < n → ValC 0 w (a.add (i * 4)) (C i))) := (⟨ha2, hb2⟩ : _ ∧ _)
  have hnI : (n : Int) ≤ 1048576 := by omega
  clear ha2 hb2 hn 
  go_enter Try.func47, Try.ntmps47
  go_wp2_with fail
  go_loopw [5] (fun s5 wr => ∃ i : Nat, s5 = .int .i64 (i : Int) ∧ i ≤ n ∧ Hid (Kb 0 w wr)) (fun s5 _ => n - (intOf s5).toNat)
  case atStart => exact ⟨0, rfl, Nat.zero_le _, Kb.refl _ _⟩
  case round =>
    obtain ⟨i, rfl, hin, HB⟩ := hrel
    rcases Nat.lt_or_ge i n with hi | hi
    · have hA := (show (0 < n → ∃ a : Addr, pa = some a ∧ n ≤ ca ∧ 0 ≤ a.block ∧ ∀ i, i < n → ValC 0 w (a.add (i * 4)) (C i)) ∧ (0 < n → ∃ a : Addr, pb = some a ∧ n ≤ cb ∧ 0 ≤ a.block ∧ ∀ i, i < n → ValC 0 w (a.add (i * 4)) (C i)) from HA)
      obtain ⟨qa, rfl, hca, -, hra⟩ := hA.1 (by omega)
      obtain ⟨qb, rfl, hcb, -, hrb⟩ := hA.2 (by omega)
      have hiI : (i : Int) < (n : Int) := by omega
      have ca := (hra i hi).keep (Nat.zero_le _) HB
      have cb := (hrb i hi).keep (Nat.zero_le _) HB
      have heq : ∀ W', Kb 0 wr W' → Calls Try.prog 83 #[gvv (C i), gvv (C i)] W' fun e w' => e = .returned (.bool true) ∧ Kb 0 W' w' := fun W' _ => eq_st (C i) W'
      replace heq : ∀ W', W'.heap = wr.heap → W'.os = wr.os → W'.output = wr.output → Calls Try.prog 83 #[gvv (C i), gvv (C i)] W' fun e w' => e = .returned (.bool true) ∧ Kb 0 wr w' := fun W' h0 h1 h2 => by
        have kk : Kb 0 wr W' := ⟨h1, h2, by rw [h0]; exact Nat.le_refl _, fun k _ _ => by rw [h0]⟩
        refine (heq W' kk).mono ?_
        rintro e w' ⟨rfl, k⟩
        exact ⟨rfl, kk.trans k⟩
      obtain ⟨a0, a1, a2, a3⟩ := ca
      obtain ⟨b0, b1, b2, b3⟩ := cb
      clear hra hrb hA HA
      generalize C i = u at *
      obtain ⟨xk, xm, xx, xr⟩ := u
      unfold gvv at heq
      dsimp only at a0 a1 a2 a3 b0 b1 b2 b3 heq
      have HKEEP : Hid (∀ (W' : World), Kb 0 wr W' → W'.cell? (qa.add (i * 4)) = some (.int .i64 xk) ∧ W'.cell? ⟨(qa.add (i * 4)).block, (qa.add (i * 4)).off + 1, none⟩ = some (.int .i64 xm) ∧ W'.cell? ⟨(qa.add (i * 4)).block, (qa.add (i * 4)).off + 2, none⟩ = some (.int .i64 xr) ∧ W'.cell? ⟨(qa.add (i * 4)).block, (qa.add (i * 4)).off + 3, none⟩ = some (.string xx) ∧ W'.cell? (qb.add (i * 4)) = some (.int .i64 xk) ∧ W'.cell? ⟨(qb.add (i * 4)).block, (qb.add (i * 4)).off + 1, none⟩ = some (.int .i64 xm) ∧ W'.cell? ⟨(qb.add (i * 4)).block, (qb.add (i * 4)).off + 2, none⟩ = some (.int .i64 xr) ∧ W'.cell? ⟨(qb.add (i * 4)).block, (qb.add (i * 4)).off + 3, none⟩ = some (.string xx)) := by
        show ∀ (W' : World), _
        intro W' k
        exact ⟨k.cell a0, k.cell a1, k.cell a2, k.cell a3, k.cell b0, k.cell b1, k.cell b2, k.cell b3⟩
      have HEQ : Hid (∀ W', W'.heap = wr.heap → W'.os = wr.os → W'.output = wr.output → Calls Try.prog 83 #[.agg #[.int .i64 xk, .int .i64 xm, .int .i64 xr, .string xx], .agg #[.int .i64 xk, .int .i64 xm, .int .i64 xr, .string xx]] W' fun e w' => e = .returned (.bool true) ∧ Kb 0 wr w') := heq
      clear hin heq
      go_wp2_with fail
      go_region_held_law (fun W' => W'.cell? (qa.add (i * 4)) = some (.int .i64 xk) ∧ W'.cell? ⟨(qa.add (i * 4)).block, (qa.add (i * 4)).off + 1, none⟩ = some (.int .i64 xm) ∧ W'.cell? ⟨(qa.add (i * 4)).block, (qa.add (i * 4)).off + 2, none⟩ = some (.int .i64 xr) ∧ W'.cell? ⟨(qa.add (i * 4)).block, (qa.add (i * 4)).off + 3, none⟩ = some (.string xx) ∧ W'.cell? (qb.add (i * 4)) = some (.int .i64 xk) ∧ W'.cell? ⟨(qb.add (i * 4)).block, (qb.add (i * 4)).off + 1, none⟩ = some (.int .i64 xm) ∧ W'.cell? ⟨(qb.add (i * 4)).block, (qb.add (i * 4)).off + 2, none⟩ = some (.int .i64 xr) ∧ W'.cell? ⟨(qb.add (i * 4)).block, (qb.add (i * 4)).off + 3, none⟩ = some (.string xx)) (first | exact ⟨a0, a1, a2, a3, b0, b1, b2, b3⟩ | exact (show ∀ (W' : World), _ from HKEEP) _ k5)
        ((go_at_call 83; refine ((show ∀ W', W'.heap = wr.heap → W'.os = wr.os → W'.output = wr.output → Calls Try.prog 83 #[.agg #[.int .i64 xk, .int .i64 xm, .int .i64 xr, .string xx], .agg #[.int .i64 xk, .int .i64 xm, .int .i64 xr, .string xx]] W' fun e w' => e = .returned (.bool true) ∧ Kb 0 wr w' from HEQ) _ (by exact rfl) (by exact rfl) (by exact rfl)).mono ?_; rintro e w5 ⟨rfl, k5⟩))
      all_goals
        have HB5 : Hid (Kb 0 w w5) := (show Kb 0 w wr from HB).trans k5
        clear HB HKEEP HEQ k5 a0 a1 a2 a3 b0 b1 b2 b3
        go_wp2_with fail
        go_roundw
        case rel => exact ⟨i + 1, by go_num, by omega, HB5⟩
        case measure => simp [intOf]; omega
    · obtain rfl : i = n := by omega
      clear HA
      go_wp2_with fail
      go_ret
      exact ⟨rfl, HB⟩
/-- a row of values in a block of its own, not before b -/
def RowX (b : Nat) (W : World) (v : Value) (c : Nat) (C : Nat → Gv) : Prop := RowW b W v c C ∧ ∃ bb, b ≤ bb ∧ bb < W.heap.size ∧ OwV W v bb c
theorem RowX.keep {b : Nat} {W W' : World} {v : Value} {c : Nat} {C : Nat → Gv} (h : RowX b W v c C) (k : Kb b W W') : RowX b W' v c C := by
  obtain ⟨h1, bb, h2, h3, h4⟩ := h
  exact ⟨h1.keep k, bb, h2, Nat.lt_of_lt_of_le h3 k.size, h4.block (fun _ => k.block bb h2 h3)⟩
theorem RowX.mono {b d : Nat} {W : World} {v : Value} {c : Nat} {C : Nat → Gv} (h : RowX b W v c C) (hd : d ≤ b) : RowX d W v c C := by
  obtain ⟨h1, bb, h2, h3⟩ := h
  exact ⟨h1.mono hd, bb, Nat.le_trans hd h2, h3⟩
end Go.Proofs.Ytamcnmnaadpfoaa.Fo.Js

namespace Go.Proofs.Ytamcnmnaadpfoaa.Fo.Js
open Go.ChangeShapes Go.WideShapes Go.ChangeAt Go.RowKit
set_option linter.unusedVariables false
set_option maxRecDepth 100000
set_option maxHeartbeats 8000000 in
theorem mark_sts {v : Value} {b c : Nat} (w : World) (k : Int) (h : OwV w v b c) (hc : c ≤ 1048576) (hk1 : 1 ≤ k) (hk2 : k ≤ 500000000) :
    Calls Try.prog 49 #[v, .int .i64 k] w fun e w' => e = .returned (.int .i64 (k + 4 * (c : Int))) ∧ Kq (fun q => 0 < c ∧ q = b) w w' ∧ MdV w' v b c k := by
  obtain ⟨p, cap, rfl, h2⟩ := h
  by_cases h0 : c = 0
  · subst h0
    go_enter Try.func49, Try.ntmps49
    go_wp2_with fail
    refine wp_loop_rounds 1 ?_
    rw [rounds_succ]
    go_wp2_with fail
    go_ret
    exact ⟨by simp, Kq.refl _ _, ⟨p, cap, rfl, fun q => by omega⟩⟩
  obtain ⟨rfl, hcap, hce, hfz⟩ := h2 (by omega)
  obtain ⟨A, hA⟩ : ∃ A : Nat → Value, A = fun j => (w.cell? ⟨b, j, none⟩).getD (.int .i64 0) := ⟨_, rfl⟩
  have HI0 : Hid (MkR w b (c * 4) A (mkv k) (0 * 4) w) := (⟨Kq.refl _ _, fun i hi => by omega, fun i _ hi => by
    obtain ⟨u, hu⟩ := hce i hi
    rw [hA]
    show _ = some ((w.cell? ⟨b, i, none⟩).getD (.int .i64 0))
    rw [hu]
    rfl, hfz⟩ : MkR w b (c * 4) A (mkv k) (0 * 4) w)
  have hcI : (c : Int) ≤ 1048576 := by omega
  have HC0 : Hid (0 < c) := (by omega : 0 < c)
  clear h2 hce hfz hA h0
  go_enter Try.func49, Try.ntmps49
  go_wp2_with fail
  go_loopw [1, 5] (fun s1 s5 wr => ∃ i : Nat, s5 = .int .i64 (i : Int) ∧ s1 = .int .i64 (k + 4 * (i : Int)) ∧ i ≤ c ∧ Hid (MkR w b (c * 4) A (mkv k) (i * 4) wr)) (fun _ s5 _ => c - (intOf s5).toNat)
  case atStart => exact ⟨0, rfl, by simp, Nat.zero_le _, HI0⟩
  case round =>
    clear HI0
    obtain ⟨i, rfl, rfl, hin, HI⟩ := hrel
    have hI := (show (MkR w b (c * 4) A (mkv k) (i * 4) wr) from HI)
    clear HI
    rcases Nat.lt_or_ge i c with hi | hi
    · have hiI : (i : Int) < (c : Int) := by omega
      obtain ⟨K, hK⟩ : ∃ K : Int, K = k + 4 * (i : Int) := ⟨_, rfl⟩
      have hx : K ≤ 504194304 := by omega
      have hx0 : 1 ≤ K := by omega
      have HK : Hid (K = k + 4 * (i : Int)) := hK
      rw [← hK]
      have E0 : mkv k (i * 4) = .int .i64 K := mkv_int (by omega) (by omega)
      have E1 : mkv k (i * 4 + 1) = .int .i64 (K + 1) := mkv_int (by omega) (by omega)
      have E2 : mkv k (i * 4 + 1 + 1) = .int .i64 (K + 1 + 1) := mkv_int (by omega) (by omega)
      have E3 : mkv k (i * 4 + 1 + 1 + 1) = .string (⟨#[109]⟩ ++ mtl (K + 1 + 1 + 1).toNat ⟨#[]⟩) := mkv_str (by omega) (by omega)
      have HEE : Hid (mkv k (i * 4 + 1) = .int .i64 (K + 1) ∧ mkv k (i * 4 + 1 + 1) = .int .i64 (K + 1 + 1) ∧ mkv k (i * 4 + 1 + 1 + 1) = .string (⟨#[109]⟩ ++ mtl (K + 1 + 1 + 1).toNat ⟨#[]⟩)) := (⟨E1, E2, E3⟩ : _ ∧ _)
      clear hK E1 E2 E3
      obtain ⟨c0, f0, M0⟩ := hI.step (by omega) (Below.refl _ _)
      rw [E0] at M0
      have HM0 : Hid (MkR w b (c * 4) A (mkv k) (i * 4 + 1) (wr.setCell ⟨b, i * 4, none⟩ (.int .i64 K))) := M0
      clear hI M0 E0
      generalize A (i * 4) = a0 at c0
      go_upto_region 5 with fail
      generalize hy : World.setCell wr _ _ = y0
      have M0 : MkR w b (c * 4) A (mkv k) (i * 4 + 1) y0 := by rw [← hy]; exact HM0
      obtain ⟨c1, f1, M1⟩ := M0.step (by omega) (Below.refl _ _)
      rw [(show _ ∧ _ from HEE).1] at M1
      have HM1 : Hid (MkR w b (c * 4) A (mkv k) (i * 4 + 1 + 1) (y0.setCell ⟨b, i * 4 + 1, none⟩ (.int .i64 (K + 1)))) := M1
      clear M1 M0 HM0 c0 f0 hy
      generalize A (i * 4 + 1) = a1 at c1
      go_upto_region 7 with fail
      generalize hy : World.setCell y0 _ _ = y1
      have M1 : MkR w b (c * 4) A (mkv k) (i * 4 + 1 + 1) y1 := by rw [← hy]; exact HM1
      obtain ⟨c2, f2, M2⟩ := M1.step (by omega) (Below.refl _ _)
      rw [(show _ ∧ _ ∧ _ from HEE).2.1] at M2
      have HM2 : Hid (MkR w b (c * 4) A (mkv k) (i * 4 + 1 + 1 + 1) (y1.setCell ⟨b, i * 4 + 1 + 1, none⟩ (.int .i64 (K + 1 + 1)))) := M2
      clear M2 M1 HM1 c1 f1 hy
      generalize A (i * 4 + 1 + 1) = a2 at c2
      go_upto_region 9 with fail
      generalize hy : World.setCell y1 _ _ = y2
      have M2 : MkR w b (c * 4) A (mkv k) (i * 4 + 1 + 1 + 1) y2 := by rw [← hy]; exact HM2
      have HM2b : Hid (MkR w b (c * 4) A (mkv k) (i * 4 + 1 + 1 + 1) y2 ∧ i * 4 + 4 ≤ c * 4) := (⟨M2, by omega⟩ : _ ∧ _)
      have HT := mark_text (K + 1 + 1 + 1).toNat (by omega) (by omega) y2
      rw [Int.toNat_of_nonneg (by omega)] at HT
      clear M2 HM2 c2 f2 hy
      obtain ⟨TX, hTX⟩ : ∃ TX, TX = (⟨#[109]⟩ ++ mtl (K + 1 + 1 + 1).toNat ⟨#[]⟩ : ByteArray) := ⟨_, rfl⟩
      rw [← hTX] at HT HEE
      clear hTX
      go_wp2_with (go_at_call 84; refine HT.mono ?_; rintro e z1 ⟨rfl, bz⟩; obtain ⟨c3, f3, M3⟩ := (show MkR w b (c * 4) A (mkv k) (i * 4 + 1 + 1 + 1) y2 ∧ i * 4 + 4 ≤ c * 4 from HM2b).1.step (by have := (show MkR w b (c * 4) A (mkv k) (i * 4 + 1 + 1 + 1) y2 ∧ i * 4 + 4 ≤ c * 4 from HM2b).2; omega) bz; rw [(show _ ∧ _ ∧ _ from HEE).2.2] at M3; replace M3 : Hid (MkR w b (c * 4) A (mkv k) (i * 4 + 1 + 1 + 1 + 1) (z1.setCell ⟨b, i * 4 + 1 + 1 + 1, none⟩ (.string TX))) := M3; generalize A (i * 4 + 1 + 1 + 1) = a3 at c3)
      go_roundw
      case rel => exact ⟨i + 1, by go_num, by rw [show K = k + 4 * (i : Int) from HK]; exact congrArg (Value.int .i64) (by omega), by omega, by rw [show (i + 1) * 4 = i * 4 + 1 + 1 + 1 + 1 by omega]; exact M3⟩
      case measure => simp [intOf]; omega
    · obtain rfl : i = c := by omega
      have hI' : ¬ (i : Int) < (i : Int) := by omega
      have HE : Hid (MkR w b (i * 4) A (mkv k) (i * 4) wr ∧ i ≤ cap) := (⟨hI, hcap⟩ : _ ∧ _)
      clear hI hi hin hcap
      go_wp2_with fail
      go_ret
      have hE := (show MkR w b (i * 4) A (mkv k) (i * 4) wr ∧ i ≤ cap from HE)
      exact ⟨rfl, hE.1.kq.mono (fun q e => ⟨HC0, e⟩), ⟨_, _, rfl, fun _ => ⟨rfl, hE.2, fun j hj => hE.1.don j hj⟩⟩⟩
set_option maxHeartbeats 8000000 in
theorem held_sts {v : Value} {b c : Nat} (w : World) (k : Int) (h : MdV w v b c k) (hc : c ≤ 1048576) (hk1 : 1 ≤ k) (hk2 : k ≤ 500000000) :
    Calls Try.prog 51 #[v, .int .i64 k] w fun e w' => e = .returned (.int .i64 (k + 4 * (c : Int))) ∧ Kb 0 w w' := by
  obtain ⟨p, cap, rfl, h2⟩ := h
  have hcI : (c : Int) ≤ 1048576 := by omega
  have HH : Hid (0 < c → p = some ⟨b, 0, none⟩ ∧ c ≤ cap ∧ ∀ j, j < c * 4 → w.cell? ⟨b, j, none⟩ = some (mkv k j)) := h2
  clear h2
  go_enter Try.func51, Try.ntmps51
  go_wp2_with fail
  go_loopw [1, 5] (fun s1 s5 wr => ∃ i : Nat, s5 = .int .i64 (i : Int) ∧ s1 = .int .i64 (k + 4 * (i : Int)) ∧ i ≤ c ∧ Hid (Kb 0 w wr)) (fun _ s5 _ => c - (intOf s5).toNat)
  case atStart => exact ⟨0, rfl, by simp, Nat.zero_le _, Kb.refl _ _⟩
  case round =>
    obtain ⟨i, rfl, rfl, hin, HI⟩ := hrel
    have kw := (show Kb 0 w wr from HI)
    rcases Nat.lt_or_ge i c with hi | hi
    · have hiI : (i : Int) < (c : Int) := by omega
      obtain ⟨rfl, hcap, hce⟩ := (show 0 < c → p = some ⟨b, 0, none⟩ ∧ c ≤ cap ∧ ∀ j, j < c * 4 → w.cell? ⟨b, j, none⟩ = some (mkv k j) from HH) (by omega)
      obtain ⟨K, hK⟩ : ∃ K : Int, K = k + 4 * (i : Int) := ⟨_, rfl⟩
      have hx : K ≤ 504194304 := by omega
      have hx0 : 1 ≤ K := by omega
      have HK : Hid (K = k + 4 * (i : Int)) := hK
      rw [← hK]
      have d0 : wr.cell? ⟨b, i * 4, none⟩ = some (.int .i64 K) := by rw [← mkv_int (k := k) (j := i * 4) (by omega) (by omega)]; exact kw.cell (hce _ (by omega))
      have d1 : wr.cell? ⟨b, i * 4 + 1, none⟩ = some (.int .i64 (K + 1)) := by rw [← mkv_int (k := k) (j := i * 4 + 1) (by omega) (by omega)]; exact kw.cell (hce _ (by omega))
      have d2 : wr.cell? ⟨b, i * 4 + 2, none⟩ = some (.int .i64 (K + 1 + 1)) := by rw [← mkv_int (k := k) (j := i * 4 + 2) (by omega) (by omega)]; exact kw.cell (hce _ (by omega))
      have d3 : wr.cell? ⟨b, i * 4 + 3, none⟩ = some (.string (⟨#[109]⟩ ++ mtl (K + 1 + 1 + 1).toNat ⟨#[]⟩)) := by rw [← mkv_str (k := k) (j := i * 4 + 3) (by omega) (by omega)]; exact kw.cell (hce _ (by omega))
      have hX : ∀ W, Calls Try.prog 84 #[.int .i64 (K + 1 + 1 + 1)] W fun e w' => e = .returned (.string (⟨#[109]⟩ ++ mtl (K + 1 + 1 + 1).toNat ⟨#[]⟩)) ∧ Below W.heap.size W w' := fun W => by
        have HT := mark_text (K + 1 + 1 + 1).toNat (by omega) (by omega) W
        rw [Int.toNat_of_nonneg (by omega)] at HT
        exact HT
      obtain ⟨X, hXd⟩ : ∃ X, X = (⟨#[109]⟩ ++ mtl (K + 1 + 1 + 1).toNat ⟨#[]⟩ : ByteArray) := ⟨_, rfl⟩
      rw [← hXd] at d3 hX
      have hxx : (X.toList != X.toList) = false := by simp
      clear hK hXd hce hcap HI
      go_wp2_with fail
      have HKEEP : Hid (∀ (W0 W' : World), Below W0.heap.size W0 W' → W0.heap = wr.heap → W'.cell? ⟨b, i * 4 + 3, none⟩ = some (.string X)) := (fun W0 W' hb he => by
        have hl : b < wr.heap.size := lt_of_cell d3
        exact (World.cell?_of_block (by rw [hb.block b (by rw [he]; exact hl), he])).trans d3 : ∀ (W0 W' : World), _)
      go_region_held3 (fun W' => W'.cell? ⟨b, i * 4 + 3, none⟩ = some (.string X)) (first | exact d3 | exact (show ∀ (W0 W' : World), _ from HKEEP) _ _ hb5 rfl) ((go_at_call 84; refine (hX _).mono ?_; rintro e w5 ⟨rfl, hb5⟩))
      all_goals
        have K5 : Kb 0 wr w5 := ⟨hb5.os, hb5.output, hb5.size, fun g _ hg => hb5.block g hg⟩
        have H5 : Hid (Kb 0 w w5) := kw.trans K5
        clear HKEEP hb5 d0 d1 d2 d3 K5 kw hX
        go_wp2_with fail
        go_roundw
        case rel => first | exact ⟨i + 1, by go_num, by rw [show K = k + 4 * (i : Int) from HK]; exact congrArg (Value.int .i64) (by omega), by omega, H5⟩ | ((repeat apply Exists.intro); exact ⟨⟨i + 1, by go_num, by rw [show K = k + 4 * (i : Int) from HK]; exact congrArg (Value.int .i64) (by omega), by omega, H5⟩, rfl⟩)
        case measure => simp [intOf]; omega
    · obtain rfl : i = c := by omega
      have hI' : ¬ (i : Int) < (i : Int) := by omega
      clear HH hi hin kw
      go_wp2_with fail
      go_ret
      exact ⟨rfl, HI⟩
end Go.Proofs.Ytamcnmnaadpfoaa.Fo.Js
