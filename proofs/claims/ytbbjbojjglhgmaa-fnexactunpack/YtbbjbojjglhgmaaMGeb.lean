import Derived.Deep.RegionHeld3
import Derived.Test.YtbbjbojjglhgmaaMGba
import Derived.Test.YtbbjbojjglhgmaaMBae
import Derived.Test.YtbbjbojjglhgmaaMGcc
namespace Go.Proofs.Ytbbjbojjglhgmaa.Fo
open Go.ChangeShapes Go.WideShapes Go.ChangeAt Go.RowKit
set_option linter.unusedVariables false
set_option maxRecDepth 100000
/-- what a marking from k on writes into cell j of a row of values -/
def mkv (k : Int) (j : Nat) : Value := if j % 4 = 2 then .string (⟨#[109]⟩ ++ mtl (k + (j : Int)).toNat ⟨#[]⟩) else .int .i64 (k + (j : Int))
theorem mkv_int {k K : Int} {j : Nat} (h : j % 4 ≠ 2) (e : k + (j : Int) = K) : mkv k j = .int .i64 K := by
  unfold mkv
  rw [if_neg h, e]
theorem mkv_str {k K : Int} {j : Nat} (h : j % 4 = 2) (e : k + (j : Int) = K) : mkv k j = .string (⟨#[109]⟩ ++ mtl K.toNat ⟨#[]⟩) := by
  unfold mkv
  rw [if_pos h, e]
/-- a row of values that lies alone in a block -/
def OwV (W : World) (v : Value) (b c : Nat) : Prop := ∃ p cap, v = .slice p c cap ∧ (0 < c → p = some ⟨b, 0, none⟩ ∧ c ≤ cap ∧ (∀ j, j < c * 4 → ∃ u, W.cell? ⟨b, j, none⟩ = some u) ∧ ∀ j, W.frozen? ⟨b, j, none⟩ = false)
/-- such a row, marked from k on -/
def MdV (W : World) (v : Value) (b c : Nat) (k : Int) : Prop := ∃ p cap, v = .slice p c cap ∧ (0 < c → p = some ⟨b, 0, none⟩ ∧ c ≤ cap ∧ ∀ j, j < c * 4 → W.cell? ⟨b, j, none⟩ = some (mkv k j))
theorem MdV.block {W W' : World} {v : Value} {b c : Nat} {k : Int} (h : MdV W v b c k) (hb : 0 < c → W'.heap[b]? = W.heap[b]?) : MdV W' v b c k := by
  obtain ⟨p, cap, h1, h2⟩ := h
  exact ⟨p, cap, h1, fun hc => ⟨(h2 hc).1, (h2 hc).2.1, fun j hj => (World.cell?_of_block (hb hc)).trans ((h2 hc).2.2 j hj)⟩⟩
theorem OwV.block {W W' : World} {v : Value} {b c : Nat} (h : OwV W v b c) (hb : 0 < c → W'.heap[b]? = W.heap[b]?) : OwV W' v b c := by
  obtain ⟨p, cap, h1, h2⟩ := h
  refine ⟨p, cap, h1, fun hc => ⟨(h2 hc).1, (h2 hc).2.1, fun j hj => ?_, fun j => (World.frozen?_of_block (hb hc)).trans ((h2 hc).2.2.2 j)⟩⟩
  obtain ⟨u, hu⟩ := (h2 hc).2.2.1 j hj
  exact ⟨u, (World.cell?_of_block (hb hc)).trans hu⟩
set_option maxHeartbeats 8000000 in
theorem mark_vals {v : Value} {b c : Nat} (w : World) (k : Int) (h : OwV w v b c) (hc : c ≤ 1048576) (hk1 : 1 ≤ k) (hk2 : k ≤ 500000000) :
    Calls Try.prog 169 #[v, .int .i64 k] w fun e w' => e = .returned (.int .i64 (k + 4 * (c : Int))) ∧ Kq (fun q => 0 < c ∧ q = b) w w' ∧ MdV w' v b c k := by
  obtain ⟨p, cap, rfl, h2⟩ := h
  by_cases h0 : c = 0
  · subst h0
    go_enter Try.func169, Try.ntmps169
    go_wp2_with fail
    refine wp_loop_rounds 1 ?_
    rw [rounds_succ]
    go_wp2_with fail
    go_ret
    exact ⟨by simp, Kq.refl _ _, ⟨p, cap, rfl, fun q => by omega⟩⟩
  obtain ⟨rfl, hcap, hce, hfz⟩ := h2 (by omega)
  obtain ⟨A, hA⟩ : ∃ A : Nat → Value, A = fun j => (w.cell? ⟨b, j, none⟩).getD (.int .i64 0) := ⟨_, rfl⟩
  have HI0 : Hid (MkR w b (c * 4) A (mkv k) (0 * 4) w) := (⟨Kq.refl _ _, fun i hi => by omega, fun i _ hi => by
    obtain ⟨u, hu⟩ := hce i hi
    rw [hA]
    show _ = some ((w.cell? ⟨b, i, none⟩).getD (.int .i64 0))
    rw [hu]
    rfl, hfz⟩ : MkR w b (c * 4) A (mkv k) (0 * 4) w)
  have hcI : (c : Int) ≤ 1048576 := by omega
  have HC0 : Hid (0 < c) := (by omega : 0 < c)
  clear h2 hce hfz hA h0
  go_enter Try.func169, Try.ntmps169
  go_wp2_with fail
  go_loopw [1, 5] (fun s1 s5 wr => ∃ i : Nat, s5 = .int .i64 (i : Int) ∧ s1 = .int .i64 (k + 4 * (i : Int)) ∧ i ≤ c ∧ Hid (MkR w b (c * 4) A (mkv k) (i * 4) wr)) (fun _ s5 _ => c - (intOf s5).toNat)
  case atStart => exact ⟨0, rfl, by simp, Nat.zero_le _, HI0⟩
  case round =>
    clear HI0
    obtain ⟨i, rfl, rfl, hin, HI⟩ := hrel
    have hI := (show (MkR w b (c * 4) A (mkv k) (i * 4) wr) from HI)
    clear HI
    rcases Nat.lt_or_ge i c with hi | hi
    · have hiI : (i : Int) < (c : Int) := by omega
      obtain ⟨K, hK⟩ : ∃ K : Int, K = k + 4 * (i : Int) := ⟨_, rfl⟩
      have hx : K ≤ 504194304 := by omega
      have hx0 : 1 ≤ K := by omega
      have HK : Hid (K = k + 4 * (i : Int)) := hK
      rw [← hK]
      have E0 : mkv k (i * 4) = .int .i64 K := mkv_int (by omega) (by omega)
      have E1 : mkv k (i * 4 + 1) = .int .i64 (K + 1) := mkv_int (by omega) (by omega)
      have E2 : mkv k (i * 4 + 1 + 1) = .string (⟨#[109]⟩ ++ mtl (K + 1 + 1).toNat ⟨#[]⟩) := mkv_str (by omega) (by omega)
      have E3 : mkv k (i * 4 + 1 + 1 + 1) = .int .i64 (K + 1 + 1 + 1) := mkv_int (by omega) (by omega)
      have HEE : Hid (mkv k (i * 4 + 1) = .int .i64 (K + 1) ∧ mkv k (i * 4 + 1 + 1) = .string (⟨#[109]⟩ ++ mtl (K + 1 + 1).toNat ⟨#[]⟩) ∧ mkv k (i * 4 + 1 + 1 + 1) = .int .i64 (K + 1 + 1 + 1)) := (⟨E1, E2, E3⟩ : _ ∧ _)
      clear hK E1 E2 E3
      obtain ⟨c0, f0, M0⟩ := hI.step (by omega) (Below.refl _ _)
      rw [E0] at M0
      have HM0 : Hid (MkR w b (c * 4) A (mkv k) (i * 4 + 1) (wr.setCell ⟨b, i * 4, none⟩ (.int .i64 K))) := M0
      clear hI M0 E0
      generalize A (i * 4) = a0 at c0
      go_upto_region 5 with fail
      generalize hy : World.setCell wr _ _ = y0
      have M0 : MkR w b (c * 4) A (mkv k) (i * 4 + 1) y0 := by rw [← hy]; exact HM0
      obtain ⟨c1, f1, M1⟩ := M0.step (by omega) (Below.refl _ _)
      rw [(show _ ∧ _ from HEE).1] at M1
      have HM1 : Hid (MkR w b (c * 4) A (mkv k) (i * 4 + 1 + 1) (y0.setCell ⟨b, i * 4 + 1, none⟩ (.int .i64 (K + 1)))) := M1
      clear M1 M0 HM0 c0 f0 hy
      generalize A (i * 4 + 1) = a1 at c1
      go_upto_region 7 with fail
      generalize hy : World.setCell y0 _ _ = y1
      have M1 : MkR w b (c * 4) A (mkv k) (i * 4 + 1 + 1) y1 := by rw [← hy]; exact HM1
      have HM1b : Hid (MkR w b (c * 4) A (mkv k) (i * 4 + 1 + 1) y1 ∧ i * 4 + 4 ≤ c * 4) := (⟨M1, by omega⟩ : _ ∧ _)
      have HT := mark_text (K + 1 + 1).toNat (by omega) (by omega) y1
      rw [Int.toNat_of_nonneg (by omega)] at HT
      clear M1 HM1 c1 f1 hy
      obtain ⟨TX, hTX⟩ : ∃ TX, TX = (⟨#[109]⟩ ++ mtl (K + 1 + 1).toNat ⟨#[]⟩ : ByteArray) := ⟨_, rfl⟩
      rw [← hTX] at HT HEE
      clear hTX
      go_upto_region 9 with (go_at_call 174; refine HT.mono ?_; rintro e z1 ⟨rfl, bz⟩; obtain ⟨c2, f2, M2⟩ := (show MkR w b (c * 4) A (mkv k) (i * 4 + 1 + 1) y1 ∧ i * 4 + 4 ≤ c * 4 from HM1b).1.step (by have := (show MkR w b (c * 4) A (mkv k) (i * 4 + 1 + 1) y1 ∧ i * 4 + 4 ≤ c * 4 from HM1b).2; omega) bz; rw [(show _ ∧ _ ∧ _ from HEE).2.1] at M2; replace M2 : Hid (MkR w b (c * 4) A (mkv k) (i * 4 + 1 + 1 + 1) (z1.setCell ⟨b, i * 4 + 1 + 1, none⟩ (.string TX))) := M2; generalize A (i * 4 + 1 + 1) = a2 at c2)
      generalize hy : World.setCell z1 _ _ = y2
      have M3 : MkR w b (c * 4) A (mkv k) (i * 4 + 1 + 1 + 1) y2 := by rw [← hy]; exact M2
      obtain ⟨c3, f3, M4⟩ := M3.step (by omega) (Below.refl _ _)
      rw [(show _ ∧ _ ∧ _ from HEE).2.2] at M4
      have HM4 : Hid (MkR w b (c * 4) A (mkv k) (i * 4 + 1 + 1 + 1 + 1) (y2.setCell ⟨b, i * 4 + 1 + 1 + 1, none⟩ (.int .i64 (K + 1 + 1 + 1)))) := M4
      clear M4 M3 M2 c2 f2 hy bz HT HM1b HEE
      generalize A (i * 4 + 1 + 1 + 1) = a3 at c3
      go_wp2_with fail
      go_roundw
      case rel => exact ⟨i + 1, by go_num, by rw [show K = k + 4 * (i : Int) from HK]; exact congrArg (Value.int .i64) (by omega), by omega, by rw [show (i + 1) * 4 = i * 4 + 1 + 1 + 1 + 1 by omega]; exact HM4⟩
      case measure => simp [intOf]; omega
    · obtain rfl : i = c := by omega
      have hI' : ¬ (i : Int) < (i : Int) := by omega
      have HE : Hid (MkR w b (i * 4) A (mkv k) (i * 4) wr ∧ i ≤ cap) := (⟨hI, hcap⟩ : _ ∧ _)
      clear hI hi hin hcap
      go_wp2_with fail
      go_ret
      have hE := (show MkR w b (i * 4) A (mkv k) (i * 4) wr ∧ i ≤ cap from HE)
      exact ⟨rfl, hE.1.kq.mono (fun q e => ⟨HC0, e⟩), ⟨_, _, rfl, fun _ => ⟨rfl, hE.2, fun j hj => hE.1.don j hj⟩⟩⟩
set_option maxHeartbeats 8000000 in
theorem held_vals {v : Value} {b c : Nat} (w : World) (k : Int) (h : MdV w v b c k) (hc : c ≤ 1048576) (hk1 : 1 ≤ k) (hk2 : k ≤ 500000000) :
    Calls Try.prog 170 #[v, .int .i64 k] w fun e w' => e = .returned (.int .i64 (k + 4 * (c : Int))) ∧ Kb 0 w w' := by
  obtain ⟨p, cap, rfl, h2⟩ := h
  have hcI : (c : Int) ≤ 1048576 := by omega
  have HH : Hid (0 < c → p = some ⟨b, 0, none⟩ ∧ c ≤ cap ∧ ∀ j, j < c * 4 → w.cell? ⟨b, j, none⟩ = some (mkv k j)) := h2
  clear h2
  go_enter Try.func170, Try.ntmps170
  go_wp2_with fail
  go_loopw [1, 5] (fun s1 s5 wr => ∃ i : Nat, s5 = .int .i64 (i : Int) ∧ s1 = .int .i64 (k + 4 * (i : Int)) ∧ i ≤ c ∧ Hid (Kb 0 w wr)) (fun _ s5 _ => c - (intOf s5).toNat)
  case atStart => exact ⟨0, rfl, by simp, Nat.zero_le _, Kb.refl _ _⟩
  case round =>
    obtain ⟨i, rfl, rfl, hin, HI⟩ := hrel
    have kw := (show Kb 0 w wr from HI)
    rcases Nat.lt_or_ge i c with hi | hi
    · have hiI : (i : Int) < (c : Int) := by omega
      obtain ⟨rfl, hcap, hce⟩ := (show 0 < c → p = some ⟨b, 0, none⟩ ∧ c ≤ cap ∧ ∀ j, j < c * 4 → w.cell? ⟨b, j, none⟩ = some (mkv k j) from HH) (by omega)
      obtain ⟨K, hK⟩ : ∃ K : Int, K = k + 4 * (i : Int) := ⟨_, rfl⟩
      have hx : K ≤ 504194304 := by omega
      have hx0 : 1 ≤ K := by omega
      have HK : Hid (K = k + 4 * (i : Int)) := hK
      rw [← hK]
      have d0 : wr.cell? ⟨b, i * 4, none⟩ = some (.int .i64 K) := by rw [← mkv_int (k := k) (j := i * 4) (by omega) (by omega)]; exact kw.cell (hce _ (by omega))
      have d1 : wr.cell? ⟨b, i * 4 + 1, none⟩ = some (.int .i64 (K + 1)) := by rw [← mkv_int (k := k) (j := i * 4 + 1) (by omega) (by omega)]; exact kw.cell (hce _ (by omega))
      have d2 : wr.cell? ⟨b, i * 4 + 2, none⟩ = some (.string (⟨#[109]⟩ ++ mtl (K + 1 + 1).toNat ⟨#[]⟩)) := by rw [← mkv_str (k := k) (j := i * 4 + 2) (by omega) (by omega)]; exact kw.cell (hce _ (by omega))
      have d3 : wr.cell? ⟨b, i * 4 + 3, none⟩ = some (.int .i64 (K + 1 + 1 + 1)) := by rw [← mkv_int (k := k) (j := i * 4 + 3) (by omega) (by omega)]; exact kw.cell (hce _ (by omega))
      have hX : ∀ W, Calls Try.prog 174 #[.int .i64 (K + 1 + 1)] W fun e w' => e = .returned (.string (⟨#[109]⟩ ++ mtl (K + 1 + 1).toNat ⟨#[]⟩)) ∧ Below W.heap.size W w' := fun W => by
        have HT := mark_text (K + 1 + 1).toNat (by omega) (by omega) W
        rw [Int.toNat_of_nonneg (by omega)] at HT
        exact HT
      obtain ⟨X, hXd⟩ : ∃ X, X = (⟨#[109]⟩ ++ mtl (K + 1 + 1).toNat ⟨#[]⟩ : ByteArray) := ⟨_, rfl⟩
      rw [← hXd] at d2 hX
      have hxx : (X.toList != X.toList) = false := by simp
      have HD3 : Hid (∀ W, Kb 0 wr W → W.cell? ⟨b, i * 4 + 3, none⟩ = some (.int .i64 (K + 1 + 1 + 1))) := (fun W q => q.cell d3 : ∀ W, _)
      clear hK hXd hce hcap HI d3
      go_wp2_with fail
      have HKEEP : Hid (∀ (W0 W' : World), Below W0.heap.size W0 W' → W0.heap = wr.heap → W'.cell? ⟨b, i * 4 + 2, none⟩ = some (.string X)) := (fun W0 W' hb he => by
        have hl : b < wr.heap.size := lt_of_cell d2
        exact (World.cell?_of_block (by rw [hb.block b (by rw [he]; exact hl), he])).trans d2 : ∀ (W0 W' : World), _)
      go_region_held3 (fun W' => W'.cell? ⟨b, i * 4 + 2, none⟩ = some (.string X)) (first | exact d2 | exact (show ∀ (W0 W' : World), _ from HKEEP) _ _ hb5 rfl) ((go_at_call 174; refine (hX _).mono ?_; rintro e w5 ⟨rfl, hb5⟩))
      all_goals
        have K5 : Kb 0 wr w5 := ⟨hb5.os, hb5.output, hb5.size, fun g _ hg => hb5.block g hg⟩
        have d3 := (show ∀ W, Kb 0 wr W → _ from HD3) w5 K5
        have H5 : Hid (Kb 0 w w5) := kw.trans K5
        clear HKEEP hb5 d0 d1 d2 K5 HD3 kw hX
        go_wp2_with fail
        go_roundw
        case rel => first | exact ⟨i + 1, by go_num, by rw [show K = k + 4 * (i : Int) from HK]; exact congrArg (Value.int .i64) (by omega), by omega, H5⟩ | ((repeat apply Exists.intro); exact ⟨⟨i + 1, by go_num, by rw [show K = k + 4 * (i : Int) from HK]; exact congrArg (Value.int .i64) (by omega), by omega, H5⟩, rfl⟩)
        case measure => simp [intOf]; omega
    · obtain rfl : i = c := by omega
      have hI' : ¬ (i : Int) < (i : Int) := by omega
      clear HH hi hin kw
      go_wp2_with fail
      go_ret
      exact ⟨rfl, HI⟩
end Go.Proofs.Ytbbjbojjglhgmaa.Fo

namespace Go.Proofs.Ytbbjbojjglhgmaa.Fo
open Go.ChangeShapes Go.WideShapes Go.ChangeAt Go.RowKit
set_option linter.unusedVariables false
set_option maxRecDepth 100000
/-- a graph's nodes in blocks of their own, between L and H -/
structure OwG (L H : Nat) (W : World) (v : Value) (n : Nat) (c : Nat → Nat) (g : Nat) (V : Nat → Value) (G : Nat → Nat) : Prop where
  sl : ∃ p cap, v = .slice p n cap ∧ (0 < n → p = some ⟨g, 0, none⟩ ∧ n ≤ cap)
  bg : 0 < n → L ≤ g ∧ g < H
  tg : ∀ i, i < n → ∃ u, W.cell? ⟨g, i * 2, none⟩ = some u
  rw : ∀ i, i < n → W.cell? ⟨g, i * 2 + 1, none⟩ = some (V i)
  fz : 0 < n → ∀ j, W.frozen? ⟨g, j, none⟩ = false
  ow : ∀ i, i < n → OwV W (V i) (G i) (c i)
  lo : ∀ i, i < n → 0 < c i → L ≤ G i ∧ G i < H ∧ G i ≠ g
  di : ∀ i j, i < n → j < n → i ≠ j → 0 < c i → 0 < c j → G i ≠ G j
theorem OwG.block {L H : Nat} {W W' : World} {v : Value} {n : Nat} {c : Nat → Nat} {g : Nat} {V : Nat → Value} {G : Nat → Nat} (h : OwG L H W v n c g V G) (hb : ∀ q, L ≤ q → q < H → W'.heap[q]? = W.heap[q]?) : OwG L H W' v n c g V G := by
  refine ⟨h.sl, h.bg, fun i hi => ?_, fun i hi => ?_, fun hn j => ?_, fun i hi => ?_, h.lo, h.di⟩
  · have hg := h.bg (by omega)
    obtain ⟨u, hu⟩ := h.tg i hi
    exact ⟨u, (World.cell?_of_block (hb g hg.1 hg.2)).trans hu⟩
  · have hg := h.bg (by omega)
    exact (World.cell?_of_block (hb g hg.1 hg.2)).trans (h.rw i hi)
  · have hg := h.bg hn
    exact (World.frozen?_of_block (hb g hg.1 hg.2)).trans (h.fz hn j)
  · exact (h.ow i hi).block (fun hc => hb _ (h.lo i hi hc).1 (h.lo i hi hc).2.1)
/-- such nodes, marked from k on -/
structure MdG (L H : Nat) (W : World) (v : Value) (n : Nat) (c : Nat → Nat) (g : Nat) (V : Nat → Value) (G : Nat → Nat) (k : Int) : Prop where
  sl : ∃ p cap, v = .slice p n cap ∧ (0 < n → p = some ⟨g, 0, none⟩ ∧ n ≤ cap)
  bg : 0 < n → L ≤ g ∧ g < H
  tag : ∀ i, i < n → W.cell? ⟨g, i * 2, none⟩ = some (.int .i64 (k + (sm (fun i => 1 + 4 * c i) i : Int)))
  rw : ∀ i, i < n → W.cell? ⟨g, i * 2 + 1, none⟩ = some (V i)
  md : ∀ i, i < n → MdV W (V i) (G i) (c i) (k + (sm (fun i => 1 + 4 * c i) i : Int) + 1)
  lo : ∀ i, i < n → 0 < c i → L ≤ G i ∧ G i < H
theorem MdG.block {L H : Nat} {W W' : World} {v : Value} {n : Nat} {c : Nat → Nat} {g : Nat} {V : Nat → Value} {G : Nat → Nat} {k : Int} (h : MdG L H W v n c g V G k) (hb : ∀ q, L ≤ q → q < H → W'.heap[q]? = W.heap[q]?) : MdG L H W' v n c g V G k := by
  refine ⟨h.sl, h.bg, fun i hi => ?_, fun i hi => ?_, fun i hi => ?_, h.lo⟩
  · have hg := h.bg (by omega)
    exact (World.cell?_of_block (hb g hg.1 hg.2)).trans (h.tag i hi)
  · have hg := h.bg (by omega)
    exact (World.cell?_of_block (hb g hg.1 hg.2)).trans (h.rw i hi)
  · exact (h.md i hi).block (fun hc => hb _ (h.lo i hi hc).1 (h.lo i hi hc).2)
/-- a marking under way: i nodes are marked -/
structure GS (L H : Nat) (W : World) (n : Nat) (c : Nat → Nat) (g : Nat) (V : Nat → Value) (G : Nat → Nat) (k : Int) (i : Nat) (wr : World) : Prop where
  kq : Kq (fun q => L ≤ q ∧ q < H) W wr
  tg : ∀ j, j < n → ∃ u, wr.cell? ⟨g, j * 2, none⟩ = some u
  rw : ∀ j, j < n → wr.cell? ⟨g, j * 2 + 1, none⟩ = some (V j)
  fz : ∀ j, wr.frozen? ⟨g, j, none⟩ = false
  ow : ∀ j, i ≤ j → j < n → OwV wr (V j) (G j) (c j)
  tag : ∀ j, j < i → wr.cell? ⟨g, j * 2, none⟩ = some (.int .i64 (k + (sm (fun i => 1 + 4 * c i) j : Int)))
  md : ∀ j, j < i → MdV wr (V j) (G j) (c j) (k + (sm (fun i => 1 + 4 * c i) j : Int) + 1)
theorem GS.step {L H : Nat} {W : World} {n : Nat} {c : Nat → Nat} {g : Nat} {V : Nat → Value} {G : Nat → Nat} {k K : Int} {i : Nat} {wr w6 : World} (h : GS L H W n c g V G k i wr) (hi : i < n) (hK : K = k + (sm (fun i => 1 + 4 * c i) i : Int)) (bg : L ≤ g ∧ g < H) (lo : ∀ i, i < n → 0 < c i → L ≤ G i ∧ G i < H ∧ G i ≠ g) (di : ∀ i j, i < n → j < n → i ≠ j → 0 < c i → 0 < c j → G i ≠ G j) (kq6 : Kq (fun q => 0 < c i ∧ q = G i) (wr.setCell ⟨g, i * 2, none⟩ (.int .i64 K)) w6) (md6 : MdV w6 (V i) (G i) (c i) (K + 1)) : GS L H W n c g V G k (i + 1) w6 := by
  have hgl : g < wr.heap.size := lt_of_cell (h.rw i hi)
  have hys : (wr.setCell ⟨g, i * 2, none⟩ (.int .i64 K)).heap.size = wr.heap.size := World.size_setCell _ _ _
  have hg6 : w6.heap[g]? = (wr.setCell ⟨g, i * 2, none⟩ (.int .i64 K)).heap[g]? := kq6.block g (by omega) (fun e => (lo i hi e.1).2.2 e.2.symm)
  have cg : ∀ j, w6.cell? ⟨g, j, none⟩ = (wr.setCell ⟨g, i * 2, none⟩ (.int .i64 K)).cell? ⟨g, j, none⟩ := fun j => World.cell?_of_block hg6
  have bk : ∀ j, j < n → j ≠ i → 0 < c j → w6.heap[G j]? = wr.heap[G j]? := fun j hj hne hc => by
    have hl : G j ≠ g := (lo j hj hc).2.2
    rcases Nat.lt_or_ge (G j) wr.heap.size with hs | hs
    · rw [kq6.block (G j) (by omega) (fun e => di j i hj hi hne hc e.1 e.2), Below.heap_setCell _ _ _ _ hl]
    · exfalso
      rcases Nat.lt_or_ge j i with q | q
      · obtain ⟨p, cap, _, h2⟩ := h.md j q
        exact absurd (lt_of_cell ((h2 hc).2.2 0 (by omega))) (by omega)
      · obtain ⟨p, cap, _, h2⟩ := h.ow j q hj
        obtain ⟨u, hu⟩ := (h2 hc).2.2.1 0 (by omega)
        exact absurd (lt_of_cell hu) (by omega)
  obtain ⟨u0, hu0⟩ := h.tg i hi
  refine ⟨⟨kq6.os.trans h.kq.os, kq6.tape.trans h.kq.tape, kq6.output.trans h.kq.output, Nat.le_trans h.kq.size (Nat.le_trans (Nat.le_of_eq hys.symm) kq6.size), fun q hq hs => ?_⟩, fun j hj => ?_, fun j hj => ?_, fun j => ?_, fun j h1 h2 => ?_, fun j hj => ?_, fun j hj => ?_⟩
  · rw [kq6.block q (by have := h.kq.size; omega) (fun e => hs (e.2 ▸ ⟨(lo i hi e.1).1, (lo i hi e.1).2.1⟩)), Below.heap_setCell _ _ _ _ (show q ≠ g from fun e => hs (e ▸ bg))]
    exact h.kq.block q hq hs
  · rw [cg]
    by_cases e : j = i
    · subst e; exact ⟨_, set_eq _ _ _ _ _ hu0⟩
    · rw [set_ne _ _ _ _ _ (by omega)]; exact h.tg j hj
  · rw [cg, set_ne _ _ _ _ _ (by omega)]; exact h.rw j hj
  · rw [World.frozen?_of_block hg6, set_fz]; exact h.fz j
  · exact (h.ow j (by omega) h2).block (fun hc => bk j h2 (by omega) hc)
  · rw [cg]
    by_cases e : j = i
    · subst e; rw [← hK]; exact set_eq _ _ _ _ _ hu0
    · rw [set_ne _ _ _ _ _ (by omega)]; exact h.tag j (by omega)
  · by_cases e : j = i
    · subst e; rw [← hK]; exact md6
    · exact (h.md j (by omega)).block (fun hc => bk j (by omega) e hc)
set_option maxHeartbeats 8000000 in
theorem mark_things {L H : Nat} {v : Value} {n : Nat} {c : Nat → Nat} {g : Nat} {V : Nat → Value} {G : Nat → Nat} (w : World) (k : Int) (h : OwG L H w v n c g V G) (hn : n ≤ 1048576) (hc : ∀ i, i < n → c i ≤ 1048576) (hk1 : 1 ≤ k) (hsm : k + (sm (fun i => 1 + 4 * c i) n : Int) ≤ 200000000) :
    Calls Try.prog 137 #[v, .int .i64 k] w fun e w' => e = .returned (.int .i64 (k + (sm (fun i => 1 + 4 * c i) n : Int))) ∧ Kq (fun q => L ≤ q ∧ q < H) w w' ∧ MdG L H w' v n c g V G k := by
  obtain ⟨p, cap, rfl, h2⟩ := h.sl
  by_cases h0 : n = 0
  · subst h0
    go_enter Try.func137, Try.ntmps137
    go_wp2_with fail
    refine wp_loop_rounds 1 ?_
    rw [rounds_succ]
    go_wp2_with fail
    go_ret
    exact ⟨by simp [sm], Kq.refl _ _, ⟨⟨p, cap, rfl, fun q => by omega⟩, fun q => by omega, fun i hi => by omega, fun i hi => by omega, fun i hi => by omega, fun i hi => by omega⟩⟩
  obtain ⟨rfl, hcap⟩ := h2 (by omega)
  have HI0 : Hid (GS L H w n c g V G k 0 w) := (⟨Kq.refl _ _, h.tg, h.rw, h.fz (by omega), fun j _ hj => h.ow j hj, fun j hj => by omega, fun j hj => by omega⟩ : GS L H w n c g V G k 0 w)
  have hnI : (n : Int) ≤ 1048576 := by omega
  have HS : Hid ((L ≤ g ∧ g < H) ∧ (∀ i, i < n → 0 < c i → L ≤ G i ∧ G i < H ∧ G i ≠ g) ∧ (∀ i j, i < n → j < n → i ≠ j → 0 < c i → 0 < c j → G i ≠ G j) ∧ (∀ i, i < n → c i ≤ 1048576) ∧ k + (sm (fun i => 1 + 4 * c i) n : Int) ≤ 200000000 ∧ n ≤ cap) := (⟨h.bg (by omega), h.lo, h.di, hc, hsm, hcap⟩ : _ ∧ _)
  clear h2 h hc hsm h0
  go_enter Try.func137, Try.ntmps137
  go_wp2_with fail
  go_loopw [1, 5] (fun s1 s5 wr => ∃ i : Nat, s5 = .int .i64 (i : Int) ∧ s1 = .int .i64 (k + (sm (fun i => 1 + 4 * c i) i : Int)) ∧ i ≤ n ∧ Hid (GS L H w n c g V G k i wr)) (fun _ s5 _ => n - (intOf s5).toNat)
  case atStart => exact ⟨0, rfl, by simp [sm], Nat.zero_le _, HI0⟩
  case round =>
    clear HI0
    obtain ⟨i, rfl, rfl, hin, HI⟩ := hrel
    have hI := (show GS L H w n c g V G k i wr from HI)
    clear HI
    obtain ⟨bg, lo, di, hcc, hsm, hcap2⟩ := (show (L ≤ g ∧ g < H) ∧ (∀ i, i < n → 0 < c i → L ≤ G i ∧ G i < H ∧ G i ≠ g) ∧ (∀ i j, i < n → j < n → i ≠ j → 0 < c i → 0 < c j → G i ≠ G j) ∧ (∀ i, i < n → c i ≤ 1048576) ∧ k + (sm (fun i => 1 + 4 * c i) n : Int) ≤ 200000000 ∧ n ≤ cap from HS)
    rcases Nat.lt_or_ge i n with hi | hi
    · have hiI : (i : Int) < (n : Int) := by omega
      have hmo := sm_mono (fun i => 1 + 4 * c i) (show i + 1 ≤ n from hi)
      have hsu : sm (fun i => 1 + 4 * c i) (i + 1) = sm (fun i => 1 + 4 * c i) i + (1 + 4 * c i) := rfl
      have hci := hcc i hi
      obtain ⟨K, hK⟩ : ∃ K : Int, K = k + (sm (fun i => 1 + 4 * c i) i : Int) := ⟨_, rfl⟩
      have hx : K ≤ 200000000 := by omega
      have hx0 : 1 ≤ K := by omega
      rw [← hK]
      obtain ⟨u, cu⟩ := hI.tg i hi
      have fu := hI.fz (i * 2)
      obtain ⟨y, hy⟩ : ∃ y, y = wr.setCell ⟨g, i * 2, none⟩ (.int .i64 K) := ⟨_, rfl⟩
      have hyg : ∀ q, q ≠ g → y.heap[q]? = wr.heap[q]? := fun q hq => by rw [hy]; exact Below.heap_setCell _ _ _ _ hq
      have r1 : y.cell? ⟨g, i * 2 + 1, none⟩ = some (V i) := by rw [hy, set_ne _ _ _ _ _ (by omega)]; exact hI.rw i hi
      have HMV := mark_vals y (K + 1) ((hI.ow i (Nat.le_refl _) hi).block (fun hc => hyg _ (lo i hi hc).2.2)) hci (by omega) (by omega)
      have HST : Hid (∀ w6, Kq (fun q => 0 < c i ∧ q = G i) y w6 → MdV w6 (V i) (G i) (c i) (K + 1) → GS L H w n c g V G k (i + 1) w6) := (fun w6 kq6 md6 => by
        rw [hy] at kq6
        exact hI.step hi hK bg lo di kq6 md6 : ∀ w6, _)
      obtain ⟨pv, cv, hV, _⟩ := hI.ow i (Nat.le_refl _) hi
      rw [hV] at r1 HMV
      have HKN : Hid (K + 1 + 4 * (c i : Int) = k + (sm (fun i => 1 + 4 * c i) (i + 1) : Int) ∧ V i = .slice pv (c i) cv) := (⟨by rw [hsu, hK]; push_cast; omega, hV⟩ : _ ∧ _)
      have HY : Hid (y = wr.setCell ⟨g, i * 2, none⟩ (.int .i64 K)) := hy
      clear hI bg lo di hcc hsm hmo hsu hK hy hyg hV HS
      go_upto_region 5 with fail
      rw [← (show y = _ from HY)]
      clear HY cu fu
      go_wp2_with fail
      refine HMV.mono ?_
      rintro e w6 ⟨rfl, kq6, md6⟩
      have HN : Hid (GS L H w n c g V G k (i + 1) w6) := (show ∀ w6, Kq (fun q => 0 < c i ∧ q = G i) y w6 → MdV w6 (V i) (G i) (c i) (K + 1) → _ from HST) w6 kq6 (by rw [(show _ ∧ _ from HKN).2]; exact md6)
      clear kq6 md6 HMV HST r1
      go_wp2_with fail
      go_roundw
      case rel => exact ⟨i + 1, by go_num, by rw [← (show _ ∧ _ from HKN).1], by omega, HN⟩
      case measure => simp [intOf]; omega
    · obtain rfl : i = n := by omega
      have hI' : ¬ (i : Int) < (i : Int) := by omega
      have HE : Hid (GS L H w i c g V G k i wr ∧ (L ≤ g ∧ g < H) ∧ (∀ q, q < i → 0 < c q → L ≤ G q ∧ G q < H) ∧ i ≤ cap) := (⟨hI, bg, fun q hq hc => ⟨(lo q hq hc).1, (lo q hq hc).2.1⟩, hcap2⟩ : _ ∧ _)
      clear hI hi hin hcap bg lo di hcc hsm hcap2 HS
      go_wp2_with fail
      go_ret
      obtain ⟨hE, bg, lo, hcap⟩ := (show GS L H w i c g V G k i wr ∧ (L ≤ g ∧ g < H) ∧ (∀ q, q < i → 0 < c q → L ≤ G q ∧ G q < H) ∧ i ≤ cap from HE)
      exact ⟨rfl, hE.kq, ⟨⟨_, _, rfl, fun _ => ⟨rfl, hcap⟩⟩, fun _ => bg, hE.tag, hE.rw, hE.md, lo⟩⟩
set_option maxHeartbeats 8000000 in
theorem held_things {L H : Nat} {v : Value} {n : Nat} {c : Nat → Nat} {g : Nat} {V : Nat → Value} {G : Nat → Nat} (w : World) (k : Int) (h : MdG L H w v n c g V G k) (hn : n ≤ 1048576) (hc : ∀ i, i < n → c i ≤ 1048576) (hk1 : 1 ≤ k) (hsm : k + (sm (fun i => 1 + 4 * c i) n : Int) ≤ 200000000) :
    Calls Try.prog 138 #[v, .int .i64 k] w fun e w' => e = .returned (.int .i64 (k + (sm (fun i => 1 + 4 * c i) n : Int))) ∧ Kb 0 w w' := by
  obtain ⟨p, cap, rfl, h2⟩ := h.sl
  have hnI : (n : Int) ≤ 1048576 := by omega
  have HH : Hid ((0 < n → p = some ⟨g, 0, none⟩ ∧ n ≤ cap) ∧ (∀ i, i < n → w.cell? ⟨g, i * 2, none⟩ = some (.int .i64 (k + (sm (fun i => 1 + 4 * c i) i : Int)))) ∧ (∀ i, i < n → w.cell? ⟨g, i * 2 + 1, none⟩ = some (V i)) ∧ (∀ i, i < n → MdV w (V i) (G i) (c i) (k + (sm (fun i => 1 + 4 * c i) i : Int) + 1)) ∧ (∀ i, i < n → c i ≤ 1048576) ∧ k + (sm (fun i => 1 + 4 * c i) n : Int) ≤ 200000000) := (⟨h2, h.tag, h.rw, h.md, hc, hsm⟩ : _ ∧ _)
  clear h2 h hc hsm
  go_enter Try.func138, Try.ntmps138
  go_wp2_with fail
  go_loopw [1, 5] (fun s1 s5 wr => ∃ i : Nat, s5 = .int .i64 (i : Int) ∧ s1 = .int .i64 (k + (sm (fun i => 1 + 4 * c i) i : Int)) ∧ i ≤ n ∧ Hid (Kb 0 w wr)) (fun _ s5 _ => n - (intOf s5).toNat)
  case atStart => exact ⟨0, rfl, by simp [sm], Nat.zero_le _, Kb.refl _ _⟩
  case round =>
    obtain ⟨i, rfl, rfl, hin, HI⟩ := hrel
    have kw := (show Kb 0 w wr from HI)
    obtain ⟨hp, htag, hrw, hmd, hcc, hsm⟩ := (show (0 < n → p = some ⟨g, 0, none⟩ ∧ n ≤ cap) ∧ (∀ i, i < n → w.cell? ⟨g, i * 2, none⟩ = some (.int .i64 (k + (sm (fun i => 1 + 4 * c i) i : Int)))) ∧ (∀ i, i < n → w.cell? ⟨g, i * 2 + 1, none⟩ = some (V i)) ∧ (∀ i, i < n → MdV w (V i) (G i) (c i) (k + (sm (fun i => 1 + 4 * c i) i : Int) + 1)) ∧ (∀ i, i < n → c i ≤ 1048576) ∧ k + (sm (fun i => 1 + 4 * c i) n : Int) ≤ 200000000 from HH)
    rcases Nat.lt_or_ge i n with hi | hi
    · have hiI : (i : Int) < (n : Int) := by omega
      obtain ⟨rfl, hcap⟩ := hp (by omega)
      have hmo := sm_mono (fun i => 1 + 4 * c i) (show i + 1 ≤ n from hi)
      have hsu : sm (fun i => 1 + 4 * c i) (i + 1) = sm (fun i => 1 + 4 * c i) i + (1 + 4 * c i) := rfl
      have hci := hcc i hi
      have d0 := kw.cell (htag i hi)
      have d1 := kw.cell (hrw i hi)
      have hm := hmd i hi
      obtain ⟨K, hK⟩ : ∃ K : Int, K = k + (sm (fun i => 1 + 4 * c i) i : Int) := ⟨_, rfl⟩
      rw [← hK] at d0 hm
      have hx : K ≤ 200000000 := by omega
      have hx0 : 1 ≤ K := by omega
      have hx2 : ¬ K + 1 + 4 * (c i : Int) < 0 := by omega
      rw [← hK]
      obtain ⟨b, hmb⟩ : ∃ b, MdV w (V i) b (c i) (K + 1) := ⟨_, hm⟩
      obtain ⟨pv, cv, hV, hq⟩ := id hmb
      have HMV := held_vals wr (K + 1) (show MdV wr (V i) b (c i) (K + 1) from ⟨pv, cv, hV, fun q => ⟨(hq q).1, (hq q).2.1, fun j hj => kw.cell ((hq q).2.2 j hj)⟩⟩) hci (by omega) (by omega)
      rw [hV] at d1 HMV
      have HKN : Hid (K + 1 + 4 * (c i : Int) = k + (sm (fun i => 1 + 4 * c i) (i + 1) : Int)) := (by rw [hsu, hK]; push_cast; omega : K + 1 + 4 * (c i : Int) = k + (sm (fun i => 1 + 4 * c i) (i + 1) : Int))
      clear hp htag hrw hmd hcc hsm hmo hsu hK hm hmb hq hV HH hcap
      go_wp2_with fail
      refine HMV.mono ?_
      rintro e w6 ⟨rfl, k6⟩
      have HN : Hid (Kb 0 w w6) := kw.trans k6
      clear k6 kw HMV d0 d1 HI
      go_wp2_with fail
      go_roundw
      case rel => exact ⟨i + 1, by go_num, by rw [← (show _ = _ from HKN)], by omega, HN⟩
      case measure => simp [intOf]; omega
    · obtain rfl : i = n := by omega
      have hI' : ¬ (i : Int) < (i : Int) := by omega
      clear HH hi hin kw hp htag hrw hmd hcc hsm
      go_wp2_with fail
      go_ret
      exact ⟨rfl, HI⟩
end Go.Proofs.Ytbbjbojjglhgmaa.Fo
