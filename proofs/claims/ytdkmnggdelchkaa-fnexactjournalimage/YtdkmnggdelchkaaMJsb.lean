import Derived.Deep.RegionHeld3
import Derived.Test.YtdkmnggdelchkaaMJsa
import Derived.Test.YtdkmnggdelchkaaMBae
namespace Go.Proofs.Ytdkmnggdelchkaa.Fo.Js
open Go.ChangeShapes Go.WideShapes Go.ChangeAt Go.RowKit
set_option linter.unusedVariables false
set_option maxRecDepth 100000
set_option maxHeartbeats 8000000 in
theorem mark_sts {v : Value} {b c : Nat} (w : World) (k : Int) (h : OwV w v b c) (hc : c ≤ 1048576) (hk1 : 1 ≤ k) (hk2 : k ≤ 500000000) :
    Calls Try.prog 33 #[v, .int .i64 k] w fun e w' => e = .returned (.int .i64 (k + 4 * (c : Int))) ∧ Kq (fun q => 0 < c ∧ q = b) w w' ∧ MdV w' v b c k := by
  obtain ⟨p, cap, rfl, h2⟩ := h
  by_cases h0 : c = 0
  · subst h0
    go_enter Try.func33, Try.ntmps33
    go_wp2_with fail
    refine wp_loop_rounds 1 ?_
    rw [rounds_succ]
    go_wp2_with fail
    go_ret
    exact ⟨by simp, Kq.refl _ _, ⟨p, cap, rfl, fun q => by omega⟩⟩
  obtain ⟨rfl, hcap, hce, hfz⟩ := h2 (by omega)
  obtain ⟨A, hA⟩ : ∃ A : Nat → Value, A = fun j => (w.cell? ⟨b, j, none⟩).getD (.int .i64 0) := ⟨_, rfl⟩
  have HI0 : Hid (MkR w b (c * 4) A (mkv k) (0 * 4) w) := (⟨Kq.refl _ _, fun i hi => by omega, fun i _ hi => by
    obtain ⟨u, hu⟩ := hce i hi
    rw [hA]
    show _ = some ((w.cell? ⟨b, i, none⟩).getD (.int .i64 0))
    rw [hu]
    rfl, hfz⟩ : MkR w b (c * 4) A (mkv k) (0 * 4) w)
  have hcI : (c : Int) ≤ 1048576 := by omega
  have HC0 : Hid (0 < c) := (by omega : 0 < c)
  clear h2 hce hfz hA h0
  go_enter Try.func33, Try.ntmps33
  go_wp2_with fail
  go_loopw [1, 5] (fun s1 s5 wr => ∃ i : Nat, s5 = .int .i64 (i : Int) ∧ s1 = .int .i64 (k + 4 * (i : Int)) ∧ i ≤ c ∧ Hid (MkR w b (c * 4) A (mkv k) (i * 4) wr)) (fun _ s5 _ => c - (intOf s5).toNat)
  case atStart => exact ⟨0, rfl, by simp, Nat.zero_le _, HI0⟩
  case round =>
    clear HI0
    obtain ⟨i, rfl, rfl, hin, HI⟩ := hrel
    have hI := (show (MkR w b (c * 4) A (mkv k) (i * 4) wr) from HI)
    clear HI
    rcases Nat.lt_or_ge i c with hi | hi
    · have hiI : (i : Int) < (c : Int) := by omega
      obtain ⟨K, hK⟩ : ∃ K : Int, K = k + 4 * (i : Int) := ⟨_, rfl⟩
      have hx : K ≤ 504194304 := by omega
      have hx0 : 1 ≤ K := by omega
      have HK : Hid (K = k + 4 * (i : Int)) := hK
      rw [← hK]
      have E0 : mkv k (i * 4) = .int .i64 K := mkv_int (by omega) (by omega)
      have E1 : mkv k (i * 4 + 1) = .int .i64 (K + 1) := mkv_int (by omega) (by omega)
      have E2 : mkv k (i * 4 + 1 + 1) = .int .i64 (K + 1 + 1) := mkv_int (by omega) (by omega)
      have E3 : mkv k (i * 4 + 1 + 1 + 1) = .string (⟨#[109]⟩ ++ mtl (K + 1 + 1 + 1).toNat ⟨#[]⟩) := mkv_str (by omega) (by omega)
      have HEE : Hid (mkv k (i * 4 + 1) = .int .i64 (K + 1) ∧ mkv k (i * 4 + 1 + 1) = .int .i64 (K + 1 + 1) ∧ mkv k (i * 4 + 1 + 1 + 1) = .string (⟨#[109]⟩ ++ mtl (K + 1 + 1 + 1).toNat ⟨#[]⟩)) := (⟨E1, E2, E3⟩ : _ ∧ _)
      clear hK E1 E2 E3
      obtain ⟨c0, f0, M0⟩ := hI.step (by omega) (Below.refl _ _)
      rw [E0] at M0
      have HM0 : Hid (MkR w b (c * 4) A (mkv k) (i * 4 + 1) (wr.setCell ⟨b, i * 4, none⟩ (.int .i64 K))) := M0
      clear hI M0 E0
      generalize A (i * 4) = a0 at c0
      go_upto_region 5 with fail
      generalize hy : World.setCell wr _ _ = y0
      have M0 : MkR w b (c * 4) A (mkv k) (i * 4 + 1) y0 := by rw [← hy]; exact HM0
      obtain ⟨c1, f1, M1⟩ := M0.step (by omega) (Below.refl _ _)
      rw [(show _ ∧ _ from HEE).1] at M1
      have HM1 : Hid (MkR w b (c * 4) A (mkv k) (i * 4 + 1 + 1) (y0.setCell ⟨b, i * 4 + 1, none⟩ (.int .i64 (K + 1)))) := M1
      clear M1 M0 HM0 c0 f0 hy
      generalize A (i * 4 + 1) = a1 at c1
      go_upto_region 7 with fail
      generalize hy : World.setCell y0 _ _ = y1
      have M1 : MkR w b (c * 4) A (mkv k) (i * 4 + 1 + 1) y1 := by rw [← hy]; exact HM1
      obtain ⟨c2, f2, M2⟩ := M1.step (by omega) (Below.refl _ _)
      rw [(show _ ∧ _ ∧ _ from HEE).2.1] at M2
      have HM2 : Hid (MkR w b (c * 4) A (mkv k) (i * 4 + 1 + 1 + 1) (y1.setCell ⟨b, i * 4 + 1 + 1, none⟩ (.int .i64 (K + 1 + 1)))) := M2
      clear M2 M1 HM1 c1 f1 hy
      generalize A (i * 4 + 1 + 1) = a2 at c2
      go_upto_region 9 with fail
      generalize hy : World.setCell y1 _ _ = y2
      have M2 : MkR w b (c * 4) A (mkv k) (i * 4 + 1 + 1 + 1) y2 := by rw [← hy]; exact HM2
      have HM2b : Hid (MkR w b (c * 4) A (mkv k) (i * 4 + 1 + 1 + 1) y2 ∧ i * 4 + 4 ≤ c * 4) := (⟨M2, by omega⟩ : _ ∧ _)
      have HT := mark_text (K + 1 + 1 + 1).toNat (by omega) (by omega) y2
      rw [Int.toNat_of_nonneg (by omega)] at HT
      clear M2 HM2 c2 f2 hy
      obtain ⟨TX, hTX⟩ : ∃ TX, TX = (⟨#[109]⟩ ++ mtl (K + 1 + 1 + 1).toNat ⟨#[]⟩ : ByteArray) := ⟨_, rfl⟩
      rw [← hTX] at HT HEE
      clear hTX
      go_wp2_with (go_at_call 63; refine HT.mono ?_; rintro e z1 ⟨rfl, bz⟩; obtain ⟨c3, f3, M3⟩ := (show MkR w b (c * 4) A (mkv k) (i * 4 + 1 + 1 + 1) y2 ∧ i * 4 + 4 ≤ c * 4 from HM2b).1.step (by have := (show MkR w b (c * 4) A (mkv k) (i * 4 + 1 + 1 + 1) y2 ∧ i * 4 + 4 ≤ c * 4 from HM2b).2; omega) bz; rw [(show _ ∧ _ ∧ _ from HEE).2.2] at M3; replace M3 : Hid (MkR w b (c * 4) A (mkv k) (i * 4 + 1 + 1 + 1 + 1) (z1.setCell ⟨b, i * 4 + 1 + 1 + 1, none⟩ (.string TX))) := M3; generalize A (i * 4 + 1 + 1 + 1) = a3 at c3)
      go_roundw
      case rel => exact ⟨i + 1, by go_num, by rw [show K = k + 4 * (i : Int) from HK]; exact congrArg (Value.int .i64) (by omega), by omega, by rw [show (i + 1) * 4 = i * 4 + 1 + 1 + 1 + 1 by omega]; exact M3⟩
      case measure => simp [intOf]; omega
    · obtain rfl : i = c := by omega
      have hI' : ¬ (i : Int) < (i : Int) := by omega
      have HE : Hid (MkR w b (i * 4) A (mkv k) (i * 4) wr ∧ i ≤ cap) := (⟨hI, hcap⟩ : _ ∧ _)
      clear hI hi hin hcap
      go_wp2_with fail
      go_ret
      have hE := (show MkR w b (i * 4) A (mkv k) (i * 4) wr ∧ i ≤ cap from HE)
      exact ⟨rfl, hE.1.kq.mono (fun q e => ⟨HC0, e⟩), ⟨_, _, rfl, fun _ => ⟨rfl, hE.2, fun j hj => hE.1.don j hj⟩⟩⟩
set_option maxHeartbeats 8000000 in
theorem held_sts {v : Value} {b c : Nat} (w : World) (k : Int) (h : MdV w v b c k) (hc : c ≤ 1048576) (hk1 : 1 ≤ k) (hk2 : k ≤ 500000000) :
    Calls Try.prog 72 #[v, .int .i64 k] w fun e w' => e = .returned (.int .i64 (k + 4 * (c : Int))) ∧ Kb 0 w w' := by
  obtain ⟨p, cap, rfl, h2⟩ := h
  have hcI : (c : Int) ≤ 1048576 := by omega
  have HH : Hid (0 < c → p = some ⟨b, 0, none⟩ ∧ c ≤ cap ∧ ∀ j, j < c * 4 → w.cell? ⟨b, j, none⟩ = some (mkv k j)) := h2
  clear h2
  go_enter Try.func72, Try.ntmps72
  go_wp2_with fail
  go_loopw [1, 5] (fun s1 s5 wr => ∃ i : Nat, s5 = .int .i64 (i : Int) ∧ s1 = .int .i64 (k + 4 * (i : Int)) ∧ i ≤ c ∧ Hid (Kb 0 w wr)) (fun _ s5 _ => c - (intOf s5).toNat)
  case atStart => exact ⟨0, rfl, by simp, Nat.zero_le _, Kb.refl _ _⟩
  case round =>
    obtain ⟨i, rfl, rfl, hin, HI⟩ := hrel
    have kw := (show Kb 0 w wr from HI)
    rcases Nat.lt_or_ge i c with hi | hi
    · have hiI : (i : Int) < (c : Int) := by omega
      obtain ⟨rfl, hcap, hce⟩ := (show 0 < c → p = some ⟨b, 0, none⟩ ∧ c ≤ cap ∧ ∀ j, j < c * 4 → w.cell? ⟨b, j, none⟩ = some (mkv k j) from HH) (by omega)
      obtain ⟨K, hK⟩ : ∃ K : Int, K = k + 4 * (i : Int) := ⟨_, rfl⟩
      have hx : K ≤ 504194304 := by omega
      have hx0 : 1 ≤ K := by omega
      have HK : Hid (K = k + 4 * (i : Int)) := hK
      rw [← hK]
      have d0 : wr.cell? ⟨b, i * 4, none⟩ = some (.int .i64 K) := by rw [← mkv_int (k := k) (j := i * 4) (by omega) (by omega)]; exact kw.cell (hce _ (by omega))
      have d1 : wr.cell? ⟨b, i * 4 + 1, none⟩ = some (.int .i64 (K + 1)) := by rw [← mkv_int (k := k) (j := i * 4 + 1) (by omega) (by omega)]; exact kw.cell (hce _ (by omega))
      have d2 : wr.cell? ⟨b, i * 4 + 2, none⟩ = some (.int .i64 (K + 1 + 1)) := by rw [← mkv_int (k := k) (j := i * 4 + 2) (by omega) (by omega)]; exact kw.cell (hce _ (by omega))
      have d3 : wr.cell? ⟨b, i * 4 + 3, none⟩ = some (.string (⟨#[109]⟩ ++ mtl (K + 1 + 1 + 1).toNat ⟨#[]⟩)) := by rw [← mkv_str (k := k) (j := i * 4 + 3) (by omega) (by omega)]; exact kw.cell (hce _ (by omega))
      have hX : ∀ W, Calls Try.prog 63 #[.int .i64 (K + 1 + 1 + 1)] W fun e w' => e = .returned (.string (⟨#[109]⟩ ++ mtl (K + 1 + 1 + 1).toNat ⟨#[]⟩)) ∧ Below W.heap.size W w' := fun W => by
        have HT := mark_text (K + 1 + 1 + 1).toNat (by omega) (by omega) W
        rw [Int.toNat_of_nonneg (by omega)] at HT
        exact HT
      obtain ⟨X, hXd⟩ : ∃ X, X = (⟨#[109]⟩ ++ mtl (K + 1 + 1 + 1).toNat ⟨#[]⟩ : ByteArray) := ⟨_, rfl⟩
      rw [← hXd] at d3 hX
      have hxx : (X.toList != X.toList) = false := by simp
      clear hK hXd hce hcap HI
      go_wp2_with fail
      have HKEEP : Hid (∀ (W0 W' : World), Below W0.heap.size W0 W' → W0.heap = wr.heap → W'.cell? ⟨b, i * 4 + 3, none⟩ = some (.string X)) := (fun W0 W' hb he => by
        have hl : b < wr.heap.size := lt_of_cell d3
        exact (World.cell?_of_block (by rw [hb.block b (by rw [he]; exact hl), he])).trans d3 : ∀ (W0 W' : World), _)
      go_region_held3 (fun W' => W'.cell? ⟨b, i * 4 + 3, none⟩ = some (.string X)) (first | exact d3 | exact (show ∀ (W0 W' : World), _ from HKEEP) _ _ hb5 rfl) ((go_at_call 63; refine (hX _).mono ?_; rintro e w5 ⟨rfl, hb5⟩))
      all_goals
        have K5 : Kb 0 wr w5 := ⟨hb5.os, hb5.output, hb5.size, fun g _ hg => hb5.block g hg⟩
        have H5 : Hid (Kb 0 w w5) := kw.trans K5
        clear HKEEP hb5 d0 d1 d2 d3 K5 kw hX
        go_wp2_with fail
        go_roundw
        case rel => first | exact ⟨i + 1, by go_num, by rw [show K = k + 4 * (i : Int) from HK]; exact congrArg (Value.int .i64) (by omega), by omega, H5⟩ | ((repeat apply Exists.intro); exact ⟨⟨i + 1, by go_num, by rw [show K = k + 4 * (i : Int) from HK]; exact congrArg (Value.int .i64) (by omega), by omega, H5⟩, rfl⟩)
        case measure => simp [intOf]; omega
    · obtain rfl : i = c := by omega
      have hI' : ¬ (i : Int) < (i : Int) := by omega
      clear HH hi hin kw
      go_wp2_with fail
      go_ret
      exact ⟨rfl, HI⟩
end Go.Proofs.Ytdkmnggdelchkaa.Fo.Js
