import Derived.Test.YtgocahalfanpjaaDoorTrh
import Derived.Test.YtgocahalfanpjaaDoorJla
namespace Go.Proofs.YtgocahalfanpjaaDoor.Fo
open Go.ChangeShapes Go.WideShapes Go.ChangeAt Go.RowKit
set_option linter.unusedVariables false
set_option maxRecDepth 100000
theorem own_ans {W0 W : World} {v : Value} {L : List (List UInt8)} (h : W.ownsRow W0.heap.size 9 1 v L.length (stv L)) : ∃ g, OwnR W v g L.length (fun i => .string (bt (L.getD i []))) ∧ (L.length ≠ 0 → W0.heap.size ≤ g ∧ g < W.heap.size) := by
  obtain ⟨p, cap, hp⟩ := own_shape h
  by_cases hn : 0 < L.length
  · obtain ⟨g, cap', cur, e, e2, hB, hlt, hcap, hcur, hcell⟩ := own_blk2 h hn
    rw [hp] at e
    injection e with e3 _ e4
    refine ⟨g, ⟨⟨p, cap, hp, fun _ => ⟨e3, by omega⟩⟩, fun i hi => ?_, fun _ j => frozen_of hcur⟩, fun _ => ⟨hB, hlt⟩⟩
    rw [hcell i (by omega), stv_at hi]
    simp [List.getD, hi]
  · exact ⟨0, ⟨⟨p, cap, hp, fun q => absurd q hn⟩, fun i hi => absurd hi (by omega), fun q => absurd q hn⟩, fun q => by omega⟩
theorem lfs_size {A : Nat → ByteArray} {l : Int} {n i : Nat} (h : 0 ≤ lfs A l n) (hi : i < n) : ((A i).size : Int) ≤ l := by
  have h1 := lfs_mono A l (i := i + 1) (n := n) (by omega)
  have h2 := lfs_le A l i
  have h3 : lfs A l (i + 1) = lfs A l i - ((A i).size : Int) := rfl
  omega
theorem kb_kq {w W W' : World} {S : Nat → Prop} (h : Kb 0 w W) (k : Kq S W W') (hS : ∀ q, S q → w.heap.size ≤ q) : Kb 0 w W' :=
  ⟨k.os.trans h.os, k.output.trans h.output, Nat.le_trans h.size k.size, fun q h1 h2 => (k.block q (Nat.lt_of_lt_of_le h2 h.size) (fun hs => by have := hS q hs; omega)).trans (h.block q h1 h2)⟩
/-- an answer in memory, of one's own, made since -/
def AnS (N : Nat) (S : Nat → ByteArray) (w : World) (e : Ending) (w' : World) : Prop := ∃ p c g, e = .returned (.slice p N c) ∧ OwnR w' (.slice p N c) g N (fun i => .string (S i)) ∧ (N ≠ 0 → w.heap.size ≤ g ∧ g < w'.heap.size) ∧ Kb 0 w w'
theorem ans_of {L : List (List UInt8)} {w : World} {e : Ending} {w' : World} (h : TrA L w e w') : AnS L.length (fun i => bt (L.getD i [])) w e w' := by
  obtain ⟨v, h1, h2, h3⟩ := h
  obtain ⟨g, q1, q2⟩ := own_ans h2
  obtain ⟨p, c, rfl⟩ := own_shape h2
  exact ⟨p, c, g, h1, q1, q2, h3⟩
set_option maxHeartbeats 32000000 in
theorem law_tries {pa : Option Addr} {ca n : Nat} {A : Nat → ByteArray} (f l : List UInt8) (w : World) (ha : RowV w (.slice pa n ca) n (fun i => .string (A i))) (hn : (n : Int) < 140737488355328) (hA : ∀ i, i < n → ((A i).size : Int) < 140737488355328) :
    Calls Tryd.prog 4 #[.slice pa n ca, .string (bt f), .string (bt l)] w fun e w' => e = .returned (.bool true) ∧ Kb 0 w w' := by
  have hzf : (bt f).size = f.length := bt_size f
  have hzl : (bt l).size = l.length := bt_size l
  by_cases hf : 1048576 < f.length
  · have h1 : (1048576 : Int) < (f.length : Int) := by omega
    clear ha hn hA hf
    go_enter Tryd.func4, Tryd.ntmps4
    go_wp2_with fail
    go_ret
    exact ⟨rfl, Kb.refl _ _⟩
  have hfI : ¬ (1048576 : Int) < (f.length : Int) := by omega
  by_cases hl : 1048576 < l.length
  · have h1 : (1048576 : Int) < (l.length : Int) := by omega
    clear ha hn hA hf hl
    go_enter Tryd.func4, Tryd.ntmps4
    go_wp2_with fail
    go_ret
    exact ⟨rfl, Kb.refl _ _⟩
  have hlI : ¬ (1048576 : Int) < (l.length : Int) := by omega
  have HZ := sz_strs w 1048576 ha hn hA (by omega) (by omega)
  obtain ⟨R, hR⟩ : ∃ R : Int, R = (if lfs A (1048576 - (n : Int)) n < 0 then -1 else lfs A (1048576 - (n : Int)) n) := ⟨_, rfl⟩
  rw [← hR] at HZ
  rcases Int.lt_or_le R 0 with hR0 | hR0
  · clear ha hn hA hf hl hR
    go_enter Tryd.func4, Tryd.ntmps4
    go_wp2_with fail
    refine HZ.mono ?_
    rintro e w' ⟨rfl, rfl⟩
    clear HZ
    go_wp2_with fail
    go_ret
    exact ⟨rfl, Kb.refl _ _⟩
  have hR1 : ¬ R < 0 := by omega
  have hl0 : 0 ≤ lfs A (1048576 - (n : Int)) n := by
    rw [hR] at hR0
    split at hR0
    · omega
    · exact hR0
  have hn9 : n ≤ 1048576 := by have := lfs_le A (1048576 - (n : Int)) n; omega
  have hA9 : ∀ i, i < n → (A i).size ≤ 1048576 := fun i hi => by have := lfs_size hl0 hi; omega
  obtain ⟨N, hN⟩ : ∃ N, N = (trs n A f l).length := ⟨_, rfl⟩
  obtain ⟨S, hS⟩ : ∃ S : Nat → ByteArray, S = fun i => bt ((trs n A f l).getD i []) := ⟨_, rfl⟩
  have hN8 : N ≤ 8 := by rw [hN]; exact trs_len n A f l
  have HTO : Hid (∀ W, Kb 0 w W → Calls Tryd.prog 10 #[.slice pa n ca] W fun e w' => ∃ p c, e = .returned (.slice p n c) ∧ OwnR w' (.slice p n c) W.heap.size n (fun i => .string (A i)) ∧ Kb 0 W w' ∧ W.heap.size < w'.heap.size) := (fun W k => (to_strs W (ha.rowB.keep k).row hn9).mono (fun e w' ⟨v, h1, h2, h3, h4⟩ => by
    obtain ⟨p, c, h5, _⟩ := id h2.sl
    subst h5
    exact ⟨p, c, h1, h2, Kb.of_below h3 0, h4⟩) : ∀ W, _)
  have HSP : Hid (∀ W v, RowV W v n (fun i => .string (A i)) → Calls Tryd.prog 9 #[v, .string (bt f), .string (bt l)] W (AnS N S W)) := (fun W v h => by
    rw [hN, hS]
    exact (sp_tries f l (by omega) hA9 hn9 W h).mono (fun e w' q => ans_of q) : ∀ W v, _)
  have HIM : Hid (∀ W v, RowV W v n (fun i => .string (A i)) → Calls Tryd.prog 11 #[v, .string (bt f), .string (bt l)] W (AnS N S W)) := (fun W v h => by
    rw [hN, hS]
    exact (im_tries f l (by omega) hA9 hn9 W h).mono (fun e w' q => ans_of q) : ∀ W v, _)
  have HEA : Hid (∀ W v v', RowV W v n (fun i => .string (A i)) → RowV W v' n (fun i => .string (A i)) → Calls Tryd.prog 12 #[v, v'] W fun e w' => e = .returned (.bool true) ∧ Kb 0 W w') := (fun W v v' h h' => (eq_strs W h h' hn9).mono (fun e w' ⟨he, d, hd⟩ => ⟨he, by rw [hd]; exact (Kb.refl 0 W).drewN d⟩) : ∀ W v v', _)
  have HES : Hid (∀ W v v', RowV W v N (fun i => .string (S i)) → RowV W v' N (fun i => .string (S i)) → Calls Tryd.prog 12 #[v, v'] W fun e w' => e = .returned (.bool true) ∧ Kb 0 W w') := (fun W v v' h h' => (eq_strs W h h' (by omega)).mono (fun e w' ⟨he, d, hd⟩ => ⟨he, by rw [hd]; exact (Kb.refl 0 W).drewN d⟩) : ∀ W v v', _)
  have HN9 : Hid (n ≤ 1048576 ∧ N ≤ 8) := (⟨hn9, hN8⟩ : _ ∧ _)
  have hnI : (n : Int) ≤ 1048576 := by omega
  have hNI : (N : Int) ≤ 8 := by omega
  have HT1 := (show ∀ W, Kb 0 w W → _ from HTO) w (Kb.refl _ _)
  clear ha hA hn9 hA9 hn hf hl hR hR0 hl0 hN hS hN8
  go_enter Tryd.func4, Tryd.ntmps4
  go_wp2_with fail
  refine HZ.mono ?_
  rintro e w0 ⟨rfl, hw0⟩
  rw [hw0]
  clear HZ hw0 w0
  go_wp2_with fail
  refine HT1.mono ?_
  rintro e w1 ⟨p1, c1, rfl, o1, k1, z1⟩
  have HS1 := (show ∀ W v, _ from HSP) w1 _ o1.row
  have HK1 : Hid (Kb 0 w w1) := k1
  clear HT1 HSP o1 k1 z1
  go_wp2_with fail
  refine HS1.mono ?_
  rintro e w2 ⟨pw, qw, gw, rfl, ow, bw, k2⟩
  have HK2 : Hid (Kb 0 w w2 ∧ OwnR w2 (.slice pw N qw) gw N (fun i => .string (S i)) ∧ (N ≠ 0 → gw < w2.heap.size)) := (⟨(show Kb 0 w w1 from HK1).trans k2, ow, fun q => (bw q).2⟩ : _ ∧ _)
  have HWS : Hid (w.heap.size ≤ w2.heap.size) := ((show Kb 0 w w1 from HK1).trans k2).size
  have HT2 := (show ∀ W, Kb 0 w W → _ from HTO) w2 ((show Kb 0 w w1 from HK1).trans k2)
  clear HS1 HK1 ow bw k2
  go_wp2_with fail
  refine HT2.mono ?_
  rintro e w3 ⟨p3, c3, rfl, o3, k3, z3⟩
  obtain ⟨X, hX⟩ : ∃ X, X = w2.heap.size := ⟨_, rfl⟩
  rw [← hX] at o3 z3
  have HI3 := (show ∀ W v, _ from HIM) w3 _ o3.row
  have HK3 : Hid (Kb 0 w2 w3 ∧ OwnR w3 (.slice p3 n c3) X n (fun i => .string (A i)) ∧ X < w3.heap.size ∧ X = w2.heap.size) := (⟨k3, o3, z3, hX⟩ : _ ∧ _)
  clear HT2 o3 k3 z3 hX
  go_wp2_with fail
  refine HI3.mono ?_
  rintro e w4 ⟨pg, qg, gg, rfl, og, bg, k4⟩
  clear HI3
  obtain ⟨k02, ow, bw⟩ := (show Kb 0 w w2 ∧ OwnR w2 (.slice pw N qw) gw N (fun i => .string (S i)) ∧ (N ≠ 0 → gw < w2.heap.size) from HK2)
  obtain ⟨k23, o3, z3, hX⟩ := (show Kb 0 w2 w3 ∧ OwnR w3 (.slice p3 n c3) X n (fun i => .string (A i)) ∧ X < w3.heap.size ∧ X = w2.heap.size from HK3)
  have k24 := k23.trans k4
  have ow4 := ow.block (W' := w4) (fun q => k24.block gw (Nat.zero_le _) (bw (by omega)))
  have o34 := o3.block (W' := w4) (fun q => k4.block X (Nat.zero_le _) z3)
  have HE4 := (show ∀ W v v', RowV W v N (fun i => .string (S i)) → _ from HES) w4 _ _ og.row ow4.row
  have HK4 : Hid (Kb 0 w w4 ∧ Kb 0 w2 w4 ∧ OwnR w4 (.slice pw N qw) gw N (fun i => .string (S i)) ∧ OwnR w4 (.slice p3 n c3) X n (fun i => .string (A i)) ∧ OwnR w4 (.slice pg N qg) gg N (fun i => .string (S i)) ∧ (N ≠ 0 → gw < X ∧ X < gg ∧ gg < w4.heap.size) ∧ X < w4.heap.size ∧ X = w2.heap.size) := (⟨k02.trans k24, k24, ow4, o34, og, fun q => by have := bw q; have := bg q; omega, by have := k4.size; omega, hX⟩ : _ ∧ _)
  clear HK2 HK3 k02 ow bw k23 o3 z3 hX k24 ow4 o34 og bg k4
  go_wp2_with fail
  refine HE4.mono ?_
  rintro e w5 ⟨rfl, k5⟩
  clear HE4
  obtain ⟨k04, k24, ow, o3, og, hg, z4, hX⟩ := (show Kb 0 w w4 ∧ Kb 0 w2 w4 ∧ OwnR w4 (.slice pw N qw) gw N (fun i => .string (S i)) ∧ OwnR w4 (.slice p3 n c3) X n (fun i => .string (A i)) ∧ OwnR w4 (.slice pg N qg) gg N (fun i => .string (S i)) ∧ (N ≠ 0 → gw < X ∧ X < gg ∧ gg < w4.heap.size) ∧ X < w4.heap.size ∧ X = w2.heap.size from HK4)
  have z5 := k5.size
  have HT5 := (show ∀ W, Kb 0 w W → _ from HTO) w5 (k04.trans k5)
  have HK5 : Hid (Kb 0 w w5 ∧ Kb 0 w2 w5 ∧ OwnR w5 (.slice pw N qw) gw N (fun i => .string (S i)) ∧ OwnR w5 (.slice p3 n c3) X n (fun i => .string (A i)) ∧ OwnR w5 (.slice pg N qg) gg N (fun i => .string (S i)) ∧ (N ≠ 0 → gw < X ∧ X < gg ∧ gg < w5.heap.size) ∧ X < w5.heap.size ∧ X = w2.heap.size) := (⟨k04.trans k5, k24.trans k5, ow.block (fun q => k5.block gw (Nat.zero_le _) (by have := hg (by omega); omega)), o3.block (fun q => k5.block X (Nat.zero_le _) z4), og.block (fun q => k5.block gg (Nat.zero_le _) (by have := hg (by omega); omega)), fun q => by have := hg q; omega, by omega, hX⟩ : _ ∧ _)
  clear HK4 k04 k24 ow o3 og hg z4 hX z5 k5
  go_wp2_with fail
  refine HT5.mono ?_
  rintro e w6 ⟨p6, c6, rfl, o6, k6, z6⟩
  clear HT5
  obtain ⟨k05, k25, ow, o3, og, hg, z5, hX⟩ := (show Kb 0 w w5 ∧ Kb 0 w2 w5 ∧ OwnR w5 (.slice pw N qw) gw N (fun i => .string (S i)) ∧ OwnR w5 (.slice p3 n c3) X n (fun i => .string (A i)) ∧ OwnR w5 (.slice pg N qg) gg N (fun i => .string (S i)) ∧ (N ≠ 0 → gw < X ∧ X < gg ∧ gg < w5.heap.size) ∧ X < w5.heap.size ∧ X = w2.heap.size from HK5)
  have o36 := o3.block (W' := w6) (fun q => k6.block X (Nat.zero_le _) z5)
  have HE6 := (show ∀ W v v', RowV W v n (fun i => .string (A i)) → _ from HEA) w6 _ _ o36.row o6.row
  have HK6 : Hid (Kb 0 w w6 ∧ Kb 0 w2 w6 ∧ OwnR w6 (.slice pw N qw) gw N (fun i => .string (S i)) ∧ OwnR w6 (.slice p3 n c3) X n (fun i => .string (A i)) ∧ OwnR w6 (.slice pg N qg) gg N (fun i => .string (S i)) ∧ (N ≠ 0 → gw < X ∧ X < gg ∧ gg < w6.heap.size) ∧ X < w6.heap.size ∧ X = w2.heap.size) := (⟨k05.trans k6, k25.trans k6, ow.block (fun q => k6.block gw (Nat.zero_le _) (by have := hg (by omega); omega)), o36, og.block (fun q => k6.block gg (Nat.zero_le _) (by have := hg (by omega); omega)), fun q => by have := hg q; have := k6.size; omega, by have := k6.size; omega, hX⟩ : _ ∧ _)
  clear HK5 k05 k25 ow o3 og hg z5 hX o36 o6 k6 z6
  go_wp2_with fail
  refine HE6.mono ?_
  rintro e w7 ⟨rfl, k7⟩
  clear HE6
  obtain ⟨k06, k26, ow, o3, og, hg, z6, hX⟩ := (show Kb 0 w w6 ∧ Kb 0 w2 w6 ∧ OwnR w6 (.slice pw N qw) gw N (fun i => .string (S i)) ∧ OwnR w6 (.slice p3 n c3) X n (fun i => .string (A i)) ∧ OwnR w6 (.slice pg N qg) gg N (fun i => .string (S i)) ∧ (N ≠ 0 → gw < X ∧ X < gg ∧ gg < w6.heap.size) ∧ X < w6.heap.size ∧ X = w2.heap.size from HK6)
  have z7 := k7.size
  have o37 := o3.block (W' := w7) (fun q => k7.block X (Nat.zero_le _) z6)
  have HM := mark_strs w7 1 o37 (by omega) (by omega) (by omega)
  obtain ⟨KX, hKX⟩ : ∃ KX : Int, KX = ((1 : Nat) : Int) + (n : Int) := ⟨_, rfl⟩
  rw [← hKX, show ((1 : Nat) : Int) = 1 from rfl] at HM
  have hKX0 : ¬ KX < 0 := by omega
  have HK7 : Hid (Kb 0 w w7 ∧ Kb 0 w2 w7 ∧ OwnR w7 (.slice pw N qw) gw N (fun i => .string (S i)) ∧ OwnR w7 (.slice pg N qg) gg N (fun i => .string (S i)) ∧ (N ≠ 0 → gw < X ∧ X < gg ∧ gg < w7.heap.size) ∧ X = w2.heap.size) := (⟨k06.trans k7, k26.trans k7, ow.block (fun q => k7.block gw (Nat.zero_le _) (by have := hg (by omega); omega)), og.block (fun q => k7.block gg (Nat.zero_le _) (by have := hg (by omega); omega)), fun q => by have := hg q; omega, hX⟩ : _ ∧ _)
  clear HK6 k06 k26 ow o3 og hg z6 hX o37 k7 z7 hKX HEA
  go_wp2_with fail
  refine HM.mono ?_
  rintro e w8 ⟨rfl, kq8, -⟩
  clear HM
  obtain ⟨k07, k27, ow, og, hg, hX⟩ := (show Kb 0 w w7 ∧ Kb 0 w2 w7 ∧ OwnR w7 (.slice pw N qw) gw N (fun i => .string (S i)) ∧ OwnR w7 (.slice pg N qg) gg N (fun i => .string (S i)) ∧ (N ≠ 0 → gw < X ∧ X < gg ∧ gg < w7.heap.size) ∧ X = w2.heap.size from HK7)
  have ow8 := ow.block (W' := w8) (fun q => kq8.block gw (by have := hg (by omega); omega) (fun e => by have := hg (by omega); omega))
  have og8 := og.block (W' := w8) (fun q => kq8.block gg (by have := hg (by omega); omega) (fun e => by have := hg (by omega); omega))
  have HE8 := (show ∀ W v v', RowV W v N (fun i => .string (S i)) → _ from HES) w8 _ _ og8.row ow8.row
  have hz2 := (show w.heap.size ≤ w2.heap.size from HWS)
  have HK8 : Hid (Kb 0 w w8 ∧ Kb 0 w2 w8 ∧ OwnR w8 (.slice pw N qw) gw N (fun i => .string (S i)) ∧ OwnR w8 (.slice pg N qg) gg N (fun i => .string (S i)) ∧ (N ≠ 0 → gw < w2.heap.size ∧ w2.heap.size < gg ∧ gg < w8.heap.size) ∧ w.heap.size ≤ w2.heap.size) := (⟨kb_kq k07 kq8 (fun q hq => by omega), kb_kq k27 kq8 (fun q hq => by omega), ow8, og8, fun q => by have := hg q; have := kq8.size; omega, by omega⟩ : _ ∧ _)
  clear HK7 k07 k27 ow og hg hX ow8 og8 kq8 hz2
  go_wp2_with fail
  refine HE8.mono ?_
  rintro e w9 ⟨rfl, k9⟩
  clear HE8
  obtain ⟨k08, k28, ow, og, hg, hw2⟩ := (show Kb 0 w w8 ∧ Kb 0 w2 w8 ∧ OwnR w8 (.slice pw N qw) gw N (fun i => .string (S i)) ∧ OwnR w8 (.slice pg N qg) gg N (fun i => .string (S i)) ∧ (N ≠ 0 → gw < w2.heap.size ∧ w2.heap.size < gg ∧ gg < w8.heap.size) ∧ w.heap.size ≤ w2.heap.size from HK8)
  have og9 := og.block (W' := w9) (fun q => k9.block gg (Nat.zero_le _) (by have := hg (by omega); omega))
  have HM := mark_strs w9 1 og9 (by omega) (by omega) (by omega)
  obtain ⟨KG, hKG⟩ : ∃ KG : Int, KG = ((1 : Nat) : Int) + (N : Int) := ⟨_, rfl⟩
  rw [← hKG, show ((1 : Nat) : Int) = 1 from rfl] at HM
  have hKG0 : ¬ KG < 0 := by omega
  have hKG1 : (KG != KG) = false := by simp
  have HKG : Hid (KG = ((1 : Nat) : Int) + (N : Int)) := hKG
  have HK9 : Hid (Kb 0 w w9 ∧ Kb 0 w2 w9 ∧ OwnR w9 (.slice pw N qw) gw N (fun i => .string (S i)) ∧ (N ≠ 0 → gw < w2.heap.size ∧ w2.heap.size < gg ∧ gg < w9.heap.size) ∧ w.heap.size ≤ w2.heap.size) := (⟨k08.trans k9, k28.trans k9, ow.block (fun q => k9.block gw (Nat.zero_le _) (by have := hg (by omega); omega)), fun q => by have := hg q; have := k9.size; omega, hw2⟩ : _ ∧ _)
  clear HK8 k08 k28 ow og hg hw2 og9 k9 hKG
  go_wp2_with fail
  refine HM.mono ?_
  rintro e wa ⟨rfl, kqa, oma⟩
  clear HM
  obtain ⟨k09, k29, ow, hg, hw2⟩ := (show Kb 0 w w9 ∧ Kb 0 w2 w9 ∧ OwnR w9 (.slice pw N qw) gw N (fun i => .string (S i)) ∧ (N ≠ 0 → gw < w2.heap.size ∧ w2.heap.size < gg ∧ gg < w9.heap.size) ∧ w.heap.size ≤ w2.heap.size from HK9)
  have HQ := held_strs wa 1 oma (by omega) (by omega) (by omega)
  rw [← (show KG = _ from HKG), show ((1 : Nat) : Int) = 1 from rfl] at HQ
  have HKa : Hid (Kb 0 w wa ∧ OwnR wa (.slice pw N qw) gw N (fun i => .string (S i)) ∧ OwnR wa (.slice pg N qg) gg N (fun i => .string (mtx (1 + i))) ∧ (N ≠ 0 → gw < wa.heap.size ∧ gg < wa.heap.size)) := (⟨kb_kq k09 kqa (fun q hq => by have := hg (by omega); omega), ow.block (fun q => kqa.block gw (by have := hg (by omega); omega) (fun e => by have := hg (by omega); omega)), oma, fun q => by have := hg q; have := kqa.size; omega⟩ : _ ∧ _)
  clear HK9 k09 k29 ow hg hw2 kqa oma
  go_wp2_with fail
  refine HQ.mono ?_
  rintro e wb ⟨rfl, kb0⟩
  have kb := kb_below kb0
  clear HQ kb0
  obtain ⟨k0a, ow, om, hg⟩ := (show Kb 0 w wa ∧ OwnR wa (.slice pw N qw) gw N (fun i => .string (S i)) ∧ OwnR wa (.slice pg N qg) gg N (fun i => .string (mtx (1 + i))) ∧ (N ≠ 0 → gw < wa.heap.size ∧ gg < wa.heap.size) from HKa)
  have HTb := (show ∀ W, Kb 0 w W → _ from HTO) wb (k0a.trans kb)
  have HKb : Hid (Kb 0 w wb ∧ OwnR wb (.slice pw N qw) gw N (fun i => .string (S i)) ∧ OwnR wb (.slice pg N qg) gg N (fun i => .string (mtx (1 + i))) ∧ (N ≠ 0 → gw < wb.heap.size ∧ gg < wb.heap.size)) := (⟨k0a.trans kb, ow.block (fun q => kb.block gw (Nat.zero_le _) (hg (by omega)).1), om.block (fun q => kb.block gg (Nat.zero_le _) (hg (by omega)).2), fun q => by have := hg q; have := kb.size; omega⟩ : _ ∧ _)
  clear HKa k0a ow om hg kb HTO
  go_wp2_with fail
  refine HTb.mono ?_
  rintro e wc ⟨p9, c9, rfl, o9, kc, zc⟩
  clear HTb
  have HIc := (show ∀ W v, _ from HIM) wc _ o9.row
  obtain ⟨k0b, ow, om, hg⟩ := (show Kb 0 w wb ∧ OwnR wb (.slice pw N qw) gw N (fun i => .string (S i)) ∧ OwnR wb (.slice pg N qg) gg N (fun i => .string (mtx (1 + i))) ∧ (N ≠ 0 → gw < wb.heap.size ∧ gg < wb.heap.size) from HKb)
  have HKc : Hid (Kb 0 w wc ∧ OwnR wc (.slice pw N qw) gw N (fun i => .string (S i)) ∧ OwnR wc (.slice pg N qg) gg N (fun i => .string (mtx (1 + i))) ∧ (N ≠ 0 → gw < wc.heap.size ∧ gg < wc.heap.size)) := (⟨k0b.trans kc, ow.block (fun q => kc.block gw (Nat.zero_le _) (hg (by omega)).1), om.block (fun q => kc.block gg (Nat.zero_le _) (hg (by omega)).2), fun q => by have := hg q; have := kc.size; omega⟩ : _ ∧ _)
  clear HKb k0b ow om hg kc zc o9 HIM
  go_wp2_with fail
  refine HIc.mono ?_
  rintro e wd ⟨ph, qh, gh, rfl, oh, bh, kd⟩
  clear HIc
  obtain ⟨k0c, ow, om, hg⟩ := (show Kb 0 w wc ∧ OwnR wc (.slice pw N qw) gw N (fun i => .string (S i)) ∧ OwnR wc (.slice pg N qg) gg N (fun i => .string (mtx (1 + i))) ∧ (N ≠ 0 → gw < wc.heap.size ∧ gg < wc.heap.size) from HKc)
  have owd := ow.block (W' := wd) (fun q => kd.block gw (Nat.zero_le _) (hg (by omega)).1)
  have HEd := (show ∀ W v v', RowV W v N (fun i => .string (S i)) → _ from HES) wd _ _ oh.row owd.row
  have HKd : Hid (Kb 0 w wd ∧ OwnR wd (.slice pg N qg) gg N (fun i => .string (mtx (1 + i))) ∧ (N ≠ 0 → gg < wd.heap.size)) := (⟨k0c.trans kd, om.block (fun q => kd.block gg (Nat.zero_le _) (hg (by omega)).2), fun q => by have := hg q; have := kd.size; omega⟩ : _ ∧ _)
  clear HKc k0c ow om hg kd oh bh owd HES
  go_wp2_with fail
  refine HEd.mono ?_
  rintro e we ⟨rfl, ke⟩
  clear HEd
  obtain ⟨k0d, om, hg⟩ := (show Kb 0 w wd ∧ OwnR wd (.slice pg N qg) gg N (fun i => .string (mtx (1 + i))) ∧ (N ≠ 0 → gg < wd.heap.size) from HKd)
  have ome := om.block (W' := we) (fun q => ke.block gg (Nat.zero_le _) (hg (by omega)))
  have HQ := held_strs we 1 ome (by omega) (by omega) (by omega)
  rw [← (show KG = _ from HKG), show ((1 : Nat) : Int) = 1 from rfl] at HQ
  have HKe : Hid (Kb 0 w we) := k0d.trans ke
  clear HKd k0d om hg ke ome HKG
  go_wp2_with fail
  refine HQ.mono ?_
  rintro e wf ⟨rfl, kf⟩
  have HF : Hid (Kb 0 w wf) := (show Kb 0 w we from HKe).trans (kb_below kf)
  clear HQ HKe kf
  go_wp2_with fail
  go_ret
  exact ⟨rfl, HF⟩
end Go.Proofs.YtgocahalfanpjaaDoor.Fo
