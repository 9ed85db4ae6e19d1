import Derived.Test.YtiojjejphdhpeaaMDcc
import Derived.Test.YtiojjejphdhpeaaMDdf
namespace Go.Proofs.Ytiojjejphdhpeaa.Fo
open Go.ChangeShapes Go.WideShapes Go.ChangeAt Go.RowKit
set_option linter.unusedVariables false
set_option maxRecDepth 100000
set_option linter.unusedSimpArgs false
/-- a disk that is being filled: all n blocks stand (in blocks before M), and i writes -/
def BI2 (w : World) (F : Nat → Ed) (n : Nat) (v : Value) (M : Nat) (Q : Nat → Ed) (i : Nat) (v' : Value) (wr : World) : Prop := (∃ g V G, OwE 1 (w.heap.size + 2) M wr v n F g V G) ∧ (∃ V G, BE 2 M 71 wr v' i Q V G) ∧ wr.heap[w.heap.size]? = some (.cells #[.slice none 0 0, .slice none 0 0] 30 (0, 0)) ∧ wr.heap[w.heap.size + 1]? = some (.cells #[v, v'] 30 (0, 0)) ∧ Kb 0 w wr ∧ w.heap.size + 2 ≤ M ∧ M ≤ wr.heap.size
theorem BI.two {w : World} {F : Nat → Ed} {n : Nat} {v : Value} {wr : World} (h : BI w F n v wr) (Q : Nat → Ed) : BI2 w F n v wr.heap.size Q 0 (.slice none 0 0) wr := by
  obtain ⟨⟨V, G, hb⟩, r, d, kw, z⟩ := h
  obtain ⟨g, o⟩ := hb.owE (.inl rfl)
  exact ⟨⟨g, V, G, o⟩, ⟨fun _ => .slice none 0 0, fun _ => 0, BE.nil _ _ _ _ _ _ _⟩, r, d, kw, z, Nat.le_refl _⟩
theorem BI2.keep {w : World} {F : Nat → Ed} {n : Nat} {v : Value} {M : Nat} {Q : Nat → Ed} {i : Nat} {v' : Value} {wr W : World} (h : BI2 w F n v M Q i v' wr) (k : Kb 0 wr W) : BI2 w F n v M Q i v' W := by
  obtain ⟨⟨g, V, G, o⟩, ⟨V', G', hb⟩, r, d, kw, z, zM⟩ := h
  have := k.size
  exact ⟨⟨g, V, G, o.block (fun q _ h2 => k.block q (Nat.zero_le _) (by omega))⟩, ⟨V', G', hb.keep k.size (fun q _ h2 => k.block q (Nat.zero_le _) h2)⟩, (k.block _ (Nat.zero_le _) (by omega)).trans r, (k.block _ (Nat.zero_le _) (by omega)).trans d, kw.trans k, z, by omega⟩
theorem BI2.shape {w : World} {F : Nat → Ed} {n : Nat} {v : Value} {M : Nat} {Q : Nat → Ed} {i : Nat} {v' : Value} {wr : World} (h : BI2 w F n v M Q i v' wr) : (∃ (ad : Option Addr) (cap : Nat), v = .slice ad n cap) ∧ ∃ (ad : Option Addr) (cap : Nat), v' = .slice ad i cap := by
  obtain ⟨⟨g, V, G, o⟩, ⟨V', G', hb⟩, _⟩ := h
  obtain ⟨p, c, e, _⟩ := o.sl
  exact ⟨⟨p, c, e⟩, own_shape hb.ro⟩
theorem BI2.step {w : World} {F : Nat → Ed} {n : Nat} {v : Value} {M : Nat} {Q : Nat → Ed} {i : Nat} {v' : Value} {wr W6 : World} {vx : Value} {gx : Nat} (h : BI2 w F n v M Q i v' wr) (k6 : Kb 0 wr W6) (ox : OwnR W6 vx gx (Q i).c (ub (Q i).A)) (lx : 0 < (Q i).c → wr.heap.size ≤ gx ∧ gx < W6.heap.size) :
    ∃ CL, (W6.cell? ⟨w.heap.size + 1, 1, none⟩ = some v' ∧ (∀ ob, (W6.alloc ob).cell? ⟨w.heap.size + 1, 1, none⟩ = some v') ∧ M ≤ W6.heap.size ∧ W6.ownsRow M 71 2 v' i CL) ∧
      ∀ (ob : Obj) (W8 : World) (g cap : Nat), W8.ownsRow M 71 2 (.slice (some ⟨g, 0, none⟩) (i + 1) cap) (i + 1) (CL ++ [.int .i64 (Q i).b, vx]) → (W6.alloc ob).grownBy W8 v'.ownBlock → (v'.ownBlock = some g ∨ g = W6.heap.size + 1) →
        (W8.cell? ⟨w.heap.size + 1, 1, none⟩ = some v' ∧ ∀ j, W8.frozen? ⟨w.heap.size + 1, j, none⟩ = false) ∧ BI2 w F n v M Q (i + 1) (.slice (some ⟨g, 0, none⟩) (i + 1) cap) (W8.setCell ⟨w.heap.size + 1, 1, none⟩ (.slice (some ⟨g, 0, none⟩) (i + 1) cap)) := by
  obtain ⟨_, ⟨V, G, hb⟩, _, _, _, z, zM⟩ := id h
  obtain ⟨⟨g1, V1, G1, o6⟩, _, r6, d6, kw6, _, zM6⟩ := h.keep k6
  refine ⟨cel 2 Q V i, ⟨cell_of d6 rfl, fun ob => (kb_alloc 0 W6 ob).cell (cell_of d6 rfl), zM6, (hb.keep k6.size (fun q _ h2 => k6.block q (Nat.zero_le _) h2)).ro⟩, fun ob W8 g cap h8 g8 ha => ?_⟩
  have st := hb.step (by omega) k6.size (fun q _ h2 => k6.block q (Nat.zero_le _) h2) ox lx (ob := ob) h8 g8 ha
  have lo : ∀ q, q < M → some q ≠ v'.ownBlock := fun q hq e => by have := (hb.ro.lt q e.symm).1; omega
  have z8 : W6.heap.size + 1 ≤ W8.heap.size := by have := g8.size; rw [World.size_alloc] at this; exact this
  have b8 : ∀ q, q < M → W8.heap[q]? = W6.heap[q]? := fun q hq => (g8.block q (by rw [World.size_alloc]; omega) (lo q hq)).trans ((kb_alloc 0 W6 ob).block q (Nat.zero_le _) (by omega))
  have d8 := (b8 (w.heap.size + 1) (by omega)).trans d6
  have r8 := (b8 w.heap.size (by omega)).trans r6
  refine ⟨⟨cell_of d8 rfl, fun j => frozen_of d8⟩, ⟨g1, V1, G1, o6.block (fun q h1 h2 => (Below.heap_setCell _ _ _ _ (show q ≠ w.heap.size + 1 by omega)).trans (b8 q h2))⟩, ⟨_, _, st.keep (by simp) (fun q h1 h2 => Below.heap_setCell _ _ _ _ (show q ≠ w.heap.size + 1 by omega))⟩, ?_, ?_, ?_, z, ?_⟩
  · rw [Below.heap_setCell _ _ _ _ (show w.heap.size ≠ w.heap.size + 1 by omega)]
    exact r8
  · exact set_known _ d8
  · have kk : Kb 0 w W8 := ⟨by rw [g8.os]; exact kw6.os, by rw [g8.output]; exact kw6.output, by have := kw6.size; omega, fun q h1 h2 => (b8 q (by omega)).trans (kw6.block q h1 h2)⟩
    exact kk.setCell _ (.inr (by show _ ≤ w.heap.size + 1; omega)) _
  · rw [World.size_setCell]
    omega
theorem BI2.fin {w : World} {F : Nat → Ed} {n : Nat} {v : Value} {M : Nat} {Q : Nat → Ed} {m : Nat} {v' : Value} {wr : World} (h : BI2 w F n v M Q m v' wr) (W : World) (hW : W = (wr.setCell ⟨w.heap.size, 0, none⟩ v).setCell ⟨w.heap.size, 1, none⟩ v') :
    OwD w.heap.size W.heap.size W v v' ⟨n, F, m, Q⟩ ∧ Kb 0 w W ∧ W.cell? ⟨w.heap.size, 0, none⟩ = some v ∧ W.cell? ⟨w.heap.size, 1, none⟩ = some v' := by
  obtain ⟨⟨g1, V1, G1, o1⟩, ⟨V, G, hb⟩, r, d, kw, z, zM⟩ := h
  have zW : W.heap.size = wr.heap.size := by rw [hW]; simp
  have bW : ∀ q, q ≠ w.heap.size → W.heap[q]? = wr.heap[q]? := fun q hq => by
    rw [hW, Below.heap_setCell _ _ _ _ (show q ≠ w.heap.size from hq), Below.heap_setCell _ _ _ _ (show q ≠ w.heap.size from hq)]
  obtain ⟨g, o⟩ := (hb.keep (by omega) (fun q h1 h2 => bW q (by omega))).owE (.inr (.inl rfl))
  have rW : W.heap[w.heap.size]? = some (.cells #[v, v'] 30 (0, 0)) := by
    rw [hW]
    exact set_known _ (set_known _ r)
  refine ⟨⟨M, g1, V1, G1, g, V, G, (o1.block (fun q h1 h2 => bW q (by omega))).wide (by omega) (Nat.le_refl _), o, by omega, by omega⟩, ?_, cell_of rW rfl, cell_of rW rfl⟩
  rw [hW]
  exact (kw.setCell _ (.inr (Nat.le_refl _)) _).setCell _ (.inr (Nat.le_refl _)) _
/-- a disk in blocks of its own from L on, whose row of writes can be appended to -/
def OwB (L : Nat) (W : World) (v1 v2 : Value) (D : Dd) : Prop := ∃ M g V G V' G', OwE 1 L M W v1 D.n D.B g V G ∧ BE 2 M 71 W v2 D.m D.Q V' G' ∧ L ≤ M ∧ M ≤ W.heap.size
theorem OwB.owD {L : Nat} {W : World} {v1 v2 : Value} {D : Dd} (h : OwB L W v1 v2 D) : OwD L W.heap.size W v1 v2 D := by
  obtain ⟨M, g, V, G, V', G', h1, h2, h3, h4⟩ := h
  obtain ⟨g', o⟩ := h2.owE (.inr (.inl rfl))
  exact ⟨M, g, V, G, g', V', G', h1, o, h3, h4⟩
theorem OwB.wide {L L' : Nat} {W : World} {v1 v2 : Value} {D : Dd} (h : OwB L W v1 v2 D) (hl : L' ≤ L) : OwB L' W v1 v2 D := by
  obtain ⟨M, g, V, G, V', G', h1, h2, h3, h4⟩ := h
  exact ⟨M, g, V, G, V', G', h1.wide hl (Nat.le_refl _), h2, by omega, h4⟩
theorem OwB.keep {L : Nat} {W W' : World} {v1 v2 : Value} {D : Dd} (h : OwB L W v1 v2 D) (k : Kb 0 W W') : OwB L W' v1 v2 D := by
  obtain ⟨M, g, V, G, V', G', h1, h2, h3, h4⟩ := h
  have := k.size
  exact ⟨M, g, V, G, V', G', h1.block (fun q _ h2 => k.block q (Nat.zero_le _) (by omega)), h2.keep k.size (fun q _ h2 => k.block q (Nat.zero_le _) h2), h3, by omega⟩
theorem OwB.shape {L : Nat} {W : World} {v1 v2 : Value} {D : Dd} (h : OwB L W v1 v2 D) : ∃ p1 c1 p2 c2, v1 = .slice p1 D.n c1 ∧ v2 = .slice p2 D.m c2 := h.owD.shape
theorem BI2.fin9 {w : World} {F : Nat → Ed} {n : Nat} {v : Value} {M : Nat} {Q : Nat → Ed} {m : Nat} {v' : Value} {wr : World} (h : BI2 w F n v M Q m v' wr) (W : World) (hW : W = (wr.setCell ⟨w.heap.size, 0, none⟩ v).setCell ⟨w.heap.size, 1, none⟩ v') : OwB w.heap.size W v v' ⟨n, F, m, Q⟩ := by
  obtain ⟨⟨g1, V1, G1, o1⟩, ⟨V, G, hb⟩, r, d, kw, z, zM⟩ := h
  have zW : W.heap.size = wr.heap.size := by rw [hW]; simp
  have bW : ∀ q, q ≠ w.heap.size → W.heap[q]? = wr.heap[q]? := fun q hq => by
    rw [hW, Below.heap_setCell _ _ _ _ (show q ≠ w.heap.size from hq), Below.heap_setCell _ _ _ _ (show q ≠ w.heap.size from hq)]
  exact ⟨M, g1, V1, G1, V, G, (o1.block (fun q h1 h2 => bW q (by omega))).wide (by omega) (Nat.le_refl _), hb.keep (by omega) (fun q h1 h2 => bW q (by omega)), by omega, by omega⟩
theorem infoWr : ∃ i1, Try.prog.info? 71 = some i1 ∧ i1.zero = some (.agg #[.int .i64 0, .slice none 0 0]) ∧ i1.size = 2 ∧ i1.bytes = 32 := ⟨Try.t71, by kernel_rfl, by kernel_rfl, by kernel_rfl, by kernel_rfl⟩
end Go.Proofs.Ytiojjejphdhpeaa.Fo

namespace Go.Proofs.Ytiojjejphdhpeaa.Fo
open Go.ChangeShapes Go.WideShapes Go.ChangeAt Go.RowKit
set_option linter.unusedVariables false
set_option maxRecDepth 100000
set_option linter.unusedSimpArgs false
set_option maxHeartbeats 16000000 in
theorem sp_dcopy9 {v1 v2 : Value} {D : Dd} (w : World) (ha : RowD 0 w v1 v2 D) (hd : BdD D) :
    Calls Try.prog 44 #[.agg #[v1, v2]] w fun e w' => ∃ u1 u2, e = .returned (.agg #[u1, u2]) ∧ OwB w.heap.size w' u1 u2 D ∧ Kb 0 w w' := by
  obtain ⟨⟨p1, c1, rfl, ha1⟩, ⟨p2, c2, rfl, ha2⟩⟩ := id ha
  have hnI : (D.n : Int) ≤ 1048576 := by have := hd.hn; omega
  have hmI : (D.m : Int) ≤ 1048576 := by have := hd.hm; omega
  obtain ⟨w1, hw1⟩ : ∃ w1, w1 = w.alloc (.cells #[.slice p1 D.n c1, .slice p2 D.m c2] 30) := ⟨_, rfl⟩
  have k1 : Kb 0 w w1 := by rw [hw1]; exact kb_alloc _ _ _
  have b1 : w1.heap[w.heap.size]? = some (.cells #[.slice p1 D.n c1, .slice p2 D.m c2] 30 (0, 0)) := by rw [hw1]; exact alloc_new _ _ _
  have z1 : w1.heap.size = w.heap.size + 1 := by rw [hw1]; exact World.size_alloc _ _
  obtain ⟨w3, hw3⟩ : ∃ w3, w3 = (w1.alloc (.cells #[.slice none 0 0, .slice none 0 0] 30)).alloc (.cells #[.slice none 0 0, .slice none 0 0] 30) := ⟨_, rfl⟩
  have hB0 : BI w1 D.B 0 (.slice none 0 0) w3 := BI.start w1 _ w3 hw3
  have HB0 : Hid (BI w1 D.B 0 (.slice none 0 0) w3) := hB0
  have b3 := (hB0.2.2.2.1.block _ (Nat.zero_le _) (by omega)).trans b1
  have u0 : w3.cell? ⟨w.heap.size, 0, none⟩ = some (.slice p1 D.n c1) := cell_of b3 rfl
  have HB1 : Hid (Kb 0 w w1 ∧ w1.heap[w.heap.size]? = some (.cells #[.slice p1 D.n c1, .slice p2 D.m c2] 30 (0, 0)) ∧ w.heap.size < w1.heap.size) := (⟨k1, b1, by omega⟩ : _ ∧ _)
  have HA1 : Hid ((0 < D.n → ∃ a : Addr, p1 = some a ∧ D.n ≤ c1 ∧ 0 ≤ a.block ∧ ∀ i, i < D.n → ElC 1 0 w (a.add (i * 1)) (D.B i)) ∧ ∀ i, i < D.n → (D.B i).c ≤ 1048576) := (⟨ha1, hd.hB⟩ : _ ∧ _)
  have HA2 : Hid ((0 < D.m → ∃ a : Addr, p2 = some a ∧ D.m ≤ c2 ∧ 0 ≤ a.block ∧ ∀ i, i < D.m → ElC 2 0 w (a.add (i * 2)) (D.Q i)) ∧ ∀ i, i < D.m → (D.Q i).c ≤ 1048576) := (⟨ha2, hd.hQ⟩ : _ ∧ _)
  have HW3 : Hid (w3 = ((w.alloc (.cells #[.slice p1 D.n c1, .slice p2 D.m c2] 30)).alloc (.cells #[.slice none 0 0, .slice none 0 0] 30)).alloc (.cells #[.slice none 0 0, .slice none 0 0] 30) ∧ w1.heap.size = w.heap.size + 1) := (⟨by rw [hw3, hw1], z1⟩ : _ ∧ _)
  clear hw1 k1 b1 z1 hw3 hB0 b3 ha hd ha1 ha2
  go_enter Try.func44, Try.ntmps44
  go_upto_region 2 with fail
  rw [← (show _ ∧ _ from HW3).1, ← (show _ ∧ _ from HW3).2]
  clear HW3
  go_wp2_with fail
  clear u0
  go_loopw [11] (fun s11 wr => ∃ (i : Nat) (v : Value), s11 = .int .i64 (i : Int) ∧ i ≤ D.n ∧ Hid (BI w1 D.B i v wr)) (fun s11 _ => D.n - (intOf s11).toNat)
  case atStart => exact ⟨0, _, rfl, Nat.zero_le _, HB0⟩
  case round =>
    clear HB0
    obtain ⟨i, v, rfl, hil, HX⟩ := hrel
    have hX := (show BI w1 D.B i v wr from HX)
    obtain ⟨pv, cv, rfl⟩ := hX.shape
    clear HX
    obtain ⟨kw1, b1, z1⟩ := (show _ ∧ _ ∧ _ from HB1)
    have k1r := hX.2.2.2.1
    by_cases hi : i < D.n
    case neg =>
      obtain rfl : i = D.n := by omega
      have br := (k1r.block _ (Nat.zero_le _) z1).trans b1
      have u1 : wr.cell? ⟨w.heap.size, 1, none⟩ = some (.slice p2 D.m c2) := cell_of br rfl
      obtain ⟨M, hM⟩ : ∃ M, M = wr.heap.size := ⟨_, rfl⟩
      obtain ⟨pf, hpf⟩ : ∃ pf, pf = pv := ⟨_, rfl⟩
      obtain ⟨cf, hcf⟩ : ∃ cf, cf = cv := ⟨_, rfl⟩
      have HB2 : Hid (BI2 w1 D.B D.n (.slice pf D.n cf) M D.Q 0 (.slice none 0 0) wr) := by rw [hpf, hcf, hM]; exact hX.two D.Q
      clear hX k1r br kw1 b1 z1 hM hpf hcf HA1 hi hil
      go_wp2_with fail
      clear u1
      go_loopw [26] (fun s26 wr => ∃ (i : Nat) (v : Value), s26 = .int .i64 (i : Int) ∧ i ≤ D.m ∧ Hid (BI2 w1 D.B D.n (.slice pf D.n cf) M D.Q i v wr)) (fun s26 _ => D.m - (intOf s26).toNat)
      case atStart => exact ⟨0, _, rfl, Nat.zero_le _, HB2⟩
      case round =>
        clear HB2
        obtain ⟨i, v, rfl, hil, HX⟩ := hrel
        have hX := (show BI2 w1 D.B D.n (.slice pf D.n cf) M D.Q i v wr from HX)
        obtain ⟨_, pv, cv, rfl⟩ := hX.shape
        clear HX
        obtain ⟨kw1, b1, z1⟩ := (show _ ∧ _ ∧ _ from HB1)
        obtain ⟨_, _, r, d, k1r, _, _⟩ := id hX
        by_cases hi : i < D.m
        case neg =>
          obtain rfl : i = D.m := by omega
          have e0 : wr.cell? ⟨w1.heap.size + 1, 0, none⟩ = some (.slice pf D.n cf) := cell_of d rfl
          have e1 : wr.cell? ⟨w1.heap.size + 1, 1, none⟩ = some (.slice pv D.m cv) := cell_of d rfl
          have a0 : wr.cell? ⟨w1.heap.size, 0, none⟩ = some (.slice none 0 0) := cell_of r rfl
          have a1 : wr.cell? ⟨w1.heap.size, 1, none⟩ = some (.slice none 0 0) := cell_of r rfl
          have fy : ∀ j, wr.frozen? ⟨w1.heap.size, j, none⟩ = false := fun j => frozen_of r
          have HX : Hid (BI2 w1 D.B D.n (.slice pf D.n cf) M D.Q D.m (.slice pv D.m cv) wr) := hX
          clear hX r d k1r kw1 b1 z1 HA2 hil hi
          go_wp2_with fail
          obtain ⟨WF, hWF⟩ : ∃ WF, WF = (wr.setCell ⟨w1.heap.size, 0, none⟩ (.slice pf D.n cf)).setCell ⟨w1.heap.size, 1, none⟩ (.slice pv D.m cv) := ⟨_, rfl⟩
          obtain ⟨f1, f2, f3, f4⟩ := (show BI2 w1 D.B D.n (.slice pf D.n cf) M D.Q D.m (.slice pv D.m cv) wr from HX).fin WF hWF
          have f9 := (show BI2 w1 D.B D.n (.slice pf D.n cf) M D.Q D.m (.slice pv D.m cv) wr from HX).fin9 WF hWF
          rw [← hWF]
          clear hWF HX
          refine bodyPost_ret (by simp [results, Try.results44, go_sem, f3, f4]; rfl) rfl ?_
          exact ⟨_, _, rfl, f9.wide ((show _ ∧ _ ∧ _ from HB1).1.size), (show _ ∧ _ ∧ _ from HB1).1.trans f2⟩
        have hiI : (i : Int) < (D.m : Int) := by omega
        obtain ⟨h2, hq⟩ := (show _ ∧ _ from HA2)
        obtain ⟨a, rfl, hca, _, hra⟩ := h2 (by omega)
        have kwr := kw1.trans k1r
        obtain ⟨vc, x0, xt, hvc⟩ := (hra i hi).keep (.inr (.inl rfl)) (Nat.zero_le _) kwr
        have hqi := hq i hi
        obtain ⟨q0, r0, rfl, -⟩ := id hvc
        have d0 : wr.cell? (a.add (i * 2)) = some (.int .i64 (D.Q i).b) := x0
        have d1 : wr.cell? ⟨(a.add (i * 2)).block, (a.add (i * 2)).off + 1, none⟩ = some (.slice q0 (D.Q i).c r0) := xt 1 (by omega) (by omega)
        have HCR : Hid (∀ w5, Kb 0 wr w5 → ∀ W, Kb 0 w5 W → Calls Try.prog 45 #[.slice q0 (D.Q i).c r0] W fun e W6 => ∃ vx, e = .returned vx ∧ (∃ px cx, vx = .slice px (D.Q i).c cx) ∧ Kb 0 W W6 ∧ ∃ CL, (W6.cell? ⟨w1.heap.size + 1, 1, none⟩ = some (.slice pv i cv) ∧ (∀ ob, (W6.alloc ob).cell? ⟨w1.heap.size + 1, 1, none⟩ = some (.slice pv i cv)) ∧ M ≤ W6.heap.size ∧ W6.ownsRow (M) 71 2 (.slice pv i cv) i CL) ∧
      ∀ (ob : Obj) (W8 : World) (g cap : Nat), W8.ownsRow (M) 71 2 (.slice (some ⟨g, 0, none⟩) (i + 1) cap) (i + 1) (CL ++ [.int .i64 (D.Q i).b, vx]) → (W6.alloc ob).grownBy W8 (Value.slice pv i cv).ownBlock → ((Value.slice pv i cv).ownBlock = some g ∨ g = W6.heap.size + 1) →
        (W8.cell? ⟨w1.heap.size + 1, 1, none⟩ = some (.slice pv i cv) ∧ ∀ j, W8.frozen? ⟨w1.heap.size + 1, j, none⟩ = false) ∧ BI2 w1 D.B D.n (.slice pf D.n cf) M D.Q (i + 1) (.slice (some ⟨g, 0, none⟩) (i + 1) cap) (W8.setCell ⟨w1.heap.size + 1, 1, none⟩ (.slice (some ⟨g, 0, none⟩) (i + 1) cap))) := (fun w5 k5 W k => (sp_copy W (hvc.keep (k5.trans k)).row hqi).mono (fun e W6 ⟨vx, gx, e1, ox, lx, k6⟩ => by
          obtain ⟨px, cx, ex, _⟩ := ox.sl
          exact ⟨vx, e1, ⟨px, cx, ex⟩, k6, (hX.keep (k5.trans k)).step k6 ox lx⟩) : ∀ w5, _)
        have HNB : Hid (some wr.heap.size ≠ (Value.slice pv i cv).ownBlock) := (fun e => by
          obtain ⟨_, ⟨V, G, hb⟩, _⟩ := hX
          exact absurd (hb.ro.lt _ e.symm).2 (by omega) : some wr.heap.size ≠ (Value.slice pv i cv).ownBlock)
        obtain ⟨fb, hfb⟩ : ∃ fb, fb = (D.Q i).b := ⟨_, rfl⟩
        have e1 : wr.cell? ⟨w1.heap.size + 1, 1, none⟩ = some (.slice pv i cv) := cell_of d rfl
        have HE1 : Hid (wr.cell? ⟨w1.heap.size + 1, 1, none⟩ = some (.slice pv i cv)) := e1
        clear hX r d k1r kw1 b1 z1 HA2 hil h2 hq hra kwr x0 xt hvc hqi e1 hfb fb
        go_upto_region 10 with fail
        generalize hw5 : World.alloc wr _ = w5
        have k5 : Kb 0 wr w5 := by rw [← hw5]; exact kb_alloc _ _ _
        have b5 : w5.heap[wr.heap.size]? = some (.cells #[.int .i64 (D.Q i).b, .slice q0 (D.Q i).c r0] 71 (0, 0)) := by rw [← hw5]; exact alloc_new _ _ _
        have HCP := (show ∀ w5, Kb 0 wr w5 → _ from HCR) w5 k5
        have hS5 : (fun W' : World => W'.cell? ⟨w1.heap.size + 1, 1, none⟩ = some (.slice pv i cv) ∧ W'.cell? ⟨wr.heap.size, 0, none⟩ = some (.int .i64 (D.Q i).b) ∧ W'.cell? ⟨wr.heap.size, 1, none⟩ = some (.slice q0 (D.Q i).c r0)) w5.drew := ⟨k5.cell (show wr.cell? _ = _ from HE1), cell_of b5 rfl, cell_of b5 rfl⟩
        have HCP : Hid (∀ W, Kb 0 w5 W → Calls Try.prog 45 #[.slice q0 (D.Q i).c r0] W fun e W6 => ∃ vx, e = .returned vx ∧ (∃ px cx, vx = .slice px (D.Q i).c cx) ∧ Kb 0 W W6 ∧ ∃ CL, (W6.cell? ⟨w1.heap.size + 1, 1, none⟩ = some (.slice pv i cv) ∧ (∀ ob, (W6.alloc ob).cell? ⟨w1.heap.size + 1, 1, none⟩ = some (.slice pv i cv)) ∧ M ≤ W6.heap.size ∧ W6.ownsRow (M) 71 2 (.slice pv i cv) i CL) ∧
      ∀ (ob : Obj) (W8 : World) (g cap : Nat), W8.ownsRow (M) 71 2 (.slice (some ⟨g, 0, none⟩) (i + 1) cap) (i + 1) (CL ++ [.int .i64 (D.Q i).b, vx]) → (W6.alloc ob).grownBy W8 (Value.slice pv i cv).ownBlock → ((Value.slice pv i cv).ownBlock = some g ∨ g = W6.heap.size + 1) →
        (W8.cell? ⟨w1.heap.size + 1, 1, none⟩ = some (.slice pv i cv) ∧ ∀ j, W8.frozen? ⟨w1.heap.size + 1, j, none⟩ = false) ∧ BI2 w1 D.B D.n (.slice pf D.n cf) M D.Q (i + 1) (.slice (some ⟨g, 0, none⟩) (i + 1) cap) (W8.setCell ⟨w1.heap.size + 1, 1, none⟩ (.slice (some ⟨g, 0, none⟩) (i + 1) cap))) := HCP
        obtain ⟨i1, hi1, hz0, hz1, hz2⟩ := infoWr
        have HI1 : Hid (Try.prog.info? 71 = some i1) := hi1
        clear hw5 k5 b5 HCR HE1 d0 d1 hi1
        refine AnyL.region (S := fun W' => W'.cell? ⟨w1.heap.size + 1, 1, none⟩ = some (.slice pv i cv) ∧ W'.cell? ⟨wr.heap.size, 0, none⟩ = some (.int .i64 (D.Q i).b) ∧ W'.cell? ⟨wr.heap.size, 1, none⟩ = some (.slice q0 (D.Q i).c r0)) (z := 11) (by kernel_rfl) ?_
        have HKD : Hid (Kb 0 w5 w5.drew) := (Kb.drewN (Kb.refl _ _) 1 : Kb 0 w5 w5.drew)
        obtain ⟨W0, hW0⟩ : ∃ W0, W0 = w5.drew := ⟨_, rfl⟩
        rw [← hW0] at HKD hS5 ⊢
        have hS0 := hS5
        clear hW0 hS5
        refine AnyL.takeAt 0 (.pointer (some ⟨w1.heap.size + 1, 1, none⟩)) rfl (by kernel_rfl) (by kernel_rfl) (by kernel_rfl) (by kernel_rfl) (fun _ _ _ h => h) rfl hS0 (by intro W hW; first | go_simp | (obtain ⟨i0, i1, i2⟩ := hW; go_simp)) ?_
        try simp only [Act.put, List.setIfInBounds_toArray, List.set_cons_zero, List.set_cons_succ]
        refine AnyL.takeAt 1 (.slice pv i cv) rfl (by kernel_rfl) (by kernel_rfl) (by kernel_rfl) (by kernel_rfl) (fun _ _ _ h => h) rfl hS0 (by intro W hW; first | go_simp | (obtain ⟨i0, i1, i2⟩ := hW; go_simp)) ?_
        try simp only [Act.put, List.setIfInBounds_toArray, List.set_cons_zero, List.set_cons_succ]
        refine AnyL.takeAt 2 (.pointer (some ⟨wr.heap.size, 0, none⟩)) rfl (by kernel_rfl) (by kernel_rfl) (by kernel_rfl) (by kernel_rfl) (fun _ _ _ h => h) rfl hS0 (by intro W hW; first | go_simp | (obtain ⟨i0, i1, i2⟩ := hW; go_simp)) ?_
        try simp only [Act.put, List.setIfInBounds_toArray, List.set_cons_zero, List.set_cons_succ]
        refine AnyL.takeAt 3 (.int .i64 (D.Q i).b) rfl (by kernel_rfl) (by kernel_rfl) (by kernel_rfl) (by kernel_rfl) (fun _ _ _ h => h) rfl hS0 (by intro W hW; first | go_simp | (obtain ⟨i0, i1, i2⟩ := hW; go_simp)) ?_
        try simp only [Act.put, List.setIfInBounds_toArray, List.set_cons_zero, List.set_cons_succ]
        refine AnyL.takeAt 4 (.pointer (some ⟨wr.heap.size, 1, none⟩)) rfl (by kernel_rfl) (by kernel_rfl) (by kernel_rfl) (by kernel_rfl) (fun _ _ _ h => h) rfl hS0 (by intro W hW; first | go_simp | (obtain ⟨i0, i1, i2⟩ := hW; go_simp)) ?_
        try simp only [Act.put, List.setIfInBounds_toArray, List.set_cons_zero, List.set_cons_succ]
        refine AnyL.takeAt 5 (.slice q0 (D.Q i).c r0) rfl (by kernel_rfl) (by kernel_rfl) (by kernel_rfl) (by kernel_rfl) (fun _ _ _ h => h) rfl hS0 (by intro W hW; first | go_simp | (obtain ⟨i0, i1, i2⟩ := hW; go_simp)) ?_
        try simp only [Act.put, List.setIfInBounds_toArray, List.set_cons_zero, List.set_cons_succ]
        refine AnyL.oneAt 6 rfl (by kernel_rfl) rfl ?_
        intro K hK
        go_simp
        refine ((show ∀ W, Kb 0 w5 W → _ from HCP) W0 HKD).mono ?_
        rintro e W6 ⟨vx, rfl, ⟨px, cx, rfl⟩, k6, CL, ⟨hS6, hS6a, h6z, hown6⟩, H8⟩
        have HS8 : Hid (∀ (ob : Obj) (W8 : World) (g cap : Nat), _) := H8
        have hp6 : ∀ ob, (W6.alloc ob).cell? ⟨wr.heap.size, 0, none⟩ = some (.int .i64 (D.Q i).b) ∧ (W6.alloc ob).cell? ⟨wr.heap.size, 1, none⟩ = some (.slice q0 (D.Q i).c r0) := fun ob => ⟨(k6.trans (kb_alloc 0 W6 ob)).cell hS0.2.1, (k6.trans (kb_alloc 0 W6 ob)).cell hS0.2.2⟩
        have hq6 : W6.cell? ⟨wr.heap.size, 0, none⟩ = some (.int .i64 (D.Q i).b) ∧ W6.cell? ⟨wr.heap.size, 1, none⟩ = some (.slice q0 (D.Q i).c r0) := ⟨k6.cell hS0.2.1, k6.cell hS0.2.2⟩
        have HP6 : Hid (∀ ob, (W6.alloc ob).cell? ⟨wr.heap.size, 0, none⟩ = some (.int .i64 (D.Q i).b) ∧ (W6.alloc ob).cell? ⟨wr.heap.size, 1, none⟩ = some (.slice q0 (D.Q i).c r0)) := hp6
        have HQ6 : Hid (W6.cell? ⟨wr.heap.size, 0, none⟩ = some (.int .i64 (D.Q i).b) ∧ W6.cell? ⟨wr.heap.size, 1, none⟩ = some (.slice q0 (D.Q i).c r0)) := hq6
        clear HCP H8 k6 HKD hp6 hq6 hS0
        refine hK.out _ _ (fun _ => ⟨hS6, HQ6⟩) ?_
        clear hK K
        try simp only [Act.put, List.setIfInBounds_toArray, List.set_cons_zero, List.set_cons_succ]
        refine AnyL.oneAt 7 rfl (by kernel_rfl) rfl ?_
        intro K hK
        go_simp
        refine hK.out _ _ (fun _ => ⟨hS6, HQ6⟩) ?_
        clear hK K
        try simp only [Act.put, List.setIfInBounds_toArray, List.set_cons_zero, List.set_cons_succ]
        refine AnyL.oneAt 8 rfl (by kernel_rfl) rfl ?_
        intro K hK
        go_simp
        refine hK.out _ _ (fun _ => ⟨hS6a _, (show ∀ ob, _ from HP6) _⟩) ?_
        clear hK K
        try simp only [Act.put, List.setIfInBounds_toArray, List.set_cons_zero, List.set_cons_succ]
        refine AnyL.oneAt 9 rfl (by kernel_rfl) rfl ?_
        intro K hK
        refine wp_append_lies _ (.tmp 31) (.tmp 38) 28 rfl M 71 i1 (.agg #[.int .i64 0, .slice none 0 0]) 2 32 Try.underlying28 HI1 hz0 hz1 hz2 rfl (by decide) (.slice pv i cv) i CL rfl (hown6.alloc _) ⟨W6.heap.size, 0, none⟩ 1 1 [.int .i64 (D.Q i).b, .slice px (D.Q i).c cx] rfl rfl (qr_cells W6 #[.int .i64 (D.Q i).b, .slice px (D.Q i).c cx] 71 [.int .i64 (D.Q i).b, .slice px (D.Q i).c cx] rfl) (by intro y hy; simp only [List.mem_cons, List.not_mem_nil, or_false] at hy; rcases hy with rfl | rfl <;> rfl) (by decide) (by unfold maxLen; omega) (by omega) (by rw [World.size_alloc]; omega) (W6.heap.size + 1) (World.size_alloc _ _) ?_
        intro g cap w8 hown1 hgrow1 hat hlt
        have hp8 : w8.cell? ⟨wr.heap.size, 0, none⟩ = some (.int .i64 (D.Q i).b) ∧ w8.cell? ⟨wr.heap.size, 1, none⟩ = some (.slice q0 (D.Q i).c r0) := by
          obtain ⟨g0, g1⟩ := (show ∀ ob, _ from HP6) (.cells #[.int .i64 (D.Q i).b, .slice px (D.Q i).c cx] 71)
          exact ⟨(World.cell?_of_block (hgrow1.block wr.heap.size (lt_of_cell' g0) HNB)).trans g0, (World.cell?_of_block (hgrow1.block wr.heap.size (lt_of_cell' g1) HNB)).trans g1⟩
        obtain ⟨⟨x1, x2⟩, hBI⟩ := (show ∀ (ob : Obj) (W8 : World) (g cap : Nat), _ from HS8) _ w8 g cap hown1 hgrow1 hat
        have HBI : Hid (BI2 w1 D.B D.n (.slice pf D.n cf) M D.Q (i + 1) (.slice (some ⟨g, 0, none⟩) (i + 1) cap) (w8.setCell ⟨w1.heap.size + 1, 1, none⟩ (.slice (some ⟨g, 0, none⟩) (i + 1) cap))) := hBI
        have x3 : w8.cell? ⟨w1.heap.size + 1, 1, none⟩ = some (.slice pv i cv) ∧ w8.cell? ⟨wr.heap.size, 0, none⟩ = some (.int .i64 (D.Q i).b) ∧ w8.cell? ⟨wr.heap.size, 1, none⟩ = some (.slice q0 (D.Q i).c r0) := ⟨x1, hp8⟩
        clear HS8 hown1 hgrow1 hat hlt hBI hS6 hS6a hown6 hp8 HP6 HQ6
        refine hK.out _ _ (fun _ => x3) ?_
        clear hK K
        try simp only [Act.put, List.setIfInBounds_toArray, List.set_cons_zero, List.set_cons_succ]
        refine AnyL.takeAt 10 (.pointer (some ⟨w1.heap.size + 1, 1, none⟩)) rfl (by kernel_rfl) (by kernel_rfl) (by kernel_rfl) (by kernel_rfl) (fun _ _ _ h => h) rfl x3 (by intro W hW; first | go_simp | (obtain ⟨i0, i1, i2⟩ := hW; go_simp)) ?_
        try simp only [Act.put, List.setIfInBounds_toArray, List.set_cons_zero, List.set_cons_succ]
        refine AnyL.oneAt 11 rfl (by kernel_rfl) rfl ?_
        intro K hK
        go_simp
        refine hK.out _ _ (fun h => absurd rfl h) ?_
        clear hK K x1 x2 x3
        try simp only [Act.put, List.setIfInBounds_toArray, List.set_cons_zero, List.set_cons_succ]
        refine AnyL.done (by kernel_rfl) ?_
        go_wp2_with fail
        go_roundw
        case rel => exact ⟨i + 1, _, by go_num, by omega, HBI⟩
        case measure => simp [intOf]; omega
    have hiI : (i : Int) < (D.n : Int) := by omega
    obtain ⟨h2, hq⟩ := (show _ ∧ _ from HA1)
    obtain ⟨a, rfl, hca, _, hra⟩ := h2 (by omega)
    have kwr := kw1.trans k1r
    obtain ⟨vc, x0, xt, hvc⟩ := (hra i hi).keep (.inl rfl) (Nat.zero_le _) kwr
    have hqi := hq i hi
    obtain ⟨q0, r0, rfl, -⟩ := id hvc
    have d0 : wr.cell? (a.add i) = some (.slice q0 (D.B i).c r0) := by have := x0; rw [Nat.mul_one] at this; exact this
    have HCP : Hid (∀ W, Kb 0 wr W → Calls Try.prog 45 #[.slice q0 (D.B i).c r0] W fun e W6 => ∃ vx, e = .returned vx ∧ (∃ px cx, vx = .slice px (D.B i).c cx) ∧ Kb 0 W W6 ∧ ∃ CL, (W6.cell? ⟨w1.heap.size + 1, 0, none⟩ = some (.slice pv i cv) ∧ (∀ ob, (W6.alloc ob).cell? ⟨w1.heap.size + 1, 0, none⟩ = some (.slice pv i cv)) ∧ w1.heap.size + 2 ≤ W6.heap.size ∧ W6.ownsRow (w1.heap.size + 2) 26 1 (.slice pv i cv) i CL) ∧
      ∀ (ob : Obj) (W8 : World) (g cap : Nat), W8.ownsRow (w1.heap.size + 2) 26 1 (.slice (some ⟨g, 0, none⟩) (i + 1) cap) (i + 1) (CL ++ [vx]) → (W6.alloc ob).grownBy W8 (Value.slice pv i cv).ownBlock → ((Value.slice pv i cv).ownBlock = some g ∨ g = W6.heap.size + 1) →
        (W8.cell? ⟨w1.heap.size + 1, 0, none⟩ = some (.slice pv i cv) ∧ ∀ j, W8.frozen? ⟨w1.heap.size + 1, j, none⟩ = false) ∧ BI w1 D.B (i + 1) (.slice (some ⟨g, 0, none⟩) (i + 1) cap) (W8.setCell ⟨w1.heap.size + 1, 0, none⟩ (.slice (some ⟨g, 0, none⟩) (i + 1) cap))) := (fun W k => (sp_copy W (hvc.keep k).row hqi).mono (fun e W6 ⟨vx, gx, e1, ox, lx, k6⟩ => by
      obtain ⟨px, cx, ex, _⟩ := ox.sl
      exact ⟨vx, e1, ⟨px, cx, ex⟩, k6, (hX.keep k).step k6 ox lx⟩) : ∀ W, _)
    obtain ⟨_, _, d, _, _⟩ := id hX
    have c0 : wr.cell? ⟨w1.heap.size + 1, 0, none⟩ = some (.slice pv i cv) := cell_of d rfl
    obtain ⟨i1, hi1, hz0, hz1, hz2⟩ := infoBB
    have HI1 : Hid (Try.prog.info? 26 = some i1) := hi1
    have HC0 : Hid (wr.cell? ⟨w1.heap.size + 1, 0, none⟩ = some (.slice pv i cv)) := c0
    clear hX d k1r kw1 b1 z1 HA2 hil h2 hq hra kwr x0 xt hvc hqi c0 hi1
    go_upto_region 5 with fail
    refine AnyL.region (S := fun W' => W'.cell? ⟨w1.heap.size + 1, 0, none⟩ = some (.slice pv i cv)) (z := 7) (by kernel_rfl) ?_
    have hS0 : (fun W' : World => W'.cell? ⟨w1.heap.size + 1, 0, none⟩ = some (.slice pv i cv)) wr.drew := HC0
    have HKD : Hid (Kb 0 wr wr.drew) := (Kb.drewN (Kb.refl _ _) 1 : Kb 0 wr wr.drew)
    obtain ⟨W0, hW0⟩ : ∃ W0, W0 = wr.drew := ⟨_, rfl⟩
    rw [← hW0] at HKD hS0 ⊢
    clear hW0 HC0 d0
    refine AnyL.takeAt 0 (.pointer (some ⟨w1.heap.size + 1, 0, none⟩)) rfl (by kernel_rfl) (by kernel_rfl) (by kernel_rfl) (by kernel_rfl) (fun _ _ _ h => h) rfl hS0 (by intro W hW; go_simp) ?_
    try simp only [Act.put, List.setIfInBounds_toArray, List.set_cons_zero, List.set_cons_succ]
    refine AnyL.takeAt 1 (.slice pv i cv) rfl (by kernel_rfl) (by kernel_rfl) (by kernel_rfl) (by kernel_rfl) (fun _ _ _ h => h) rfl hS0 (by intro W hW; go_simp) ?_
    try simp only [Act.put, List.setIfInBounds_toArray, List.set_cons_zero, List.set_cons_succ]
    refine AnyL.takeAt 2 (.slice q0 (D.B i).c r0) rfl (by kernel_rfl) (by kernel_rfl) (by kernel_rfl) (by kernel_rfl) (fun _ _ _ h => h) rfl hS0 (by intro W hW; go_simp) ?_
    try simp only [Act.put, List.setIfInBounds_toArray, List.set_cons_zero, List.set_cons_succ]
    refine AnyL.oneAt 3 rfl (by kernel_rfl) rfl ?_
    intro K hK
    go_simp
    refine ((show ∀ W, Kb 0 wr W → _ from HCP) W0 HKD).mono ?_
    rintro e W6 ⟨vx, rfl, ⟨px, cx, rfl⟩, k6, CL, ⟨hS6, hS6a, h6z, hown6⟩, H8⟩
    have HS8 : Hid (∀ (ob : Obj) (W8 : World) (g cap : Nat), _) := H8
    clear HCP H8 k6 HKD
    refine hK.out _ _ (fun _ => hS6) ?_
    clear hK K
    try simp only [Act.put, List.setIfInBounds_toArray, List.set_cons_zero, List.set_cons_succ]
    refine AnyL.oneAt 4 rfl (by kernel_rfl) rfl ?_
    intro K hK
    go_simp
    refine hK.out _ _ (fun _ => hS6a _) ?_
    clear hK K
    try simp only [Act.put, List.setIfInBounds_toArray, List.set_cons_zero, List.set_cons_succ]
    refine AnyL.oneAt 5 rfl (by kernel_rfl) rfl ?_
    intro K hK
    refine wp_append_lies _ (.tmp 16) (.tmp 19) 22 rfl (w1.heap.size + 2) 26 i1 (.slice none 0 0) 1 24 Try.underlying22 HI1 hz0 hz1 hz2 rfl (by decide) (.slice pv i cv) i CL rfl (hown6.alloc _) ⟨W6.heap.size, 0, none⟩ 1 1 [.slice px (D.B i).c cx] rfl rfl (qr_cells W6 #[.slice px (D.B i).c cx] 26 [.slice px (D.B i).c cx] rfl) (by intro y hy; simp only [List.mem_cons, List.not_mem_nil, or_false] at hy; rcases hy with rfl; rfl) (by decide) (by unfold maxLen; omega) (by omega) (by rw [World.size_alloc]; omega) (W6.heap.size + 1) (World.size_alloc _ _) ?_
    intro g cap w8 hown1 hgrow1 hat hlt
    obtain ⟨⟨x1, x2⟩, hBI⟩ := (show ∀ (ob : Obj) (W8 : World) (g cap : Nat), _ from HS8) _ w8 g cap hown1 hgrow1 hat
    have HBI : Hid (BI w1 D.B (i + 1) (.slice (some ⟨g, 0, none⟩) (i + 1) cap) (w8.setCell ⟨w1.heap.size + 1, 0, none⟩ (.slice (some ⟨g, 0, none⟩) (i + 1) cap))) := hBI
    clear HS8 hown1 hgrow1 hat hlt hBI hS6 hS6a hown6
    refine hK.out _ _ (fun _ => x1) ?_
    clear hK K
    try simp only [Act.put, List.setIfInBounds_toArray, List.set_cons_zero, List.set_cons_succ]
    refine AnyL.takeAt 6 (.pointer (some ⟨w1.heap.size + 1, 0, none⟩)) rfl (by kernel_rfl) (by kernel_rfl) (by kernel_rfl) (by kernel_rfl) (fun _ _ _ h => h) rfl x1 (by intro W hW; go_simp) ?_
    try simp only [Act.put, List.setIfInBounds_toArray, List.set_cons_zero, List.set_cons_succ]
    refine AnyL.oneAt 7 rfl (by kernel_rfl) rfl ?_
    intro K hK
    go_simp
    refine hK.out _ _ (fun h => absurd rfl h) ?_
    clear hK K x1 x2
    try simp only [Act.put, List.setIfInBounds_toArray, List.set_cons_zero, List.set_cons_succ]
    refine AnyL.done (by kernel_rfl) ?_
    go_wp2_with fail
    go_roundw
    case rel => exact ⟨i + 1, _, by go_num, by omega, HBI⟩
    case measure => simp [intOf]; omega
theorem sp_dcopy {v1 v2 : Value} {D : Dd} (w : World) (ha : RowD 0 w v1 v2 D) (hd : BdD D) :
    Calls Try.prog 44 #[.agg #[v1, v2]] w fun e w' => ∃ u1 u2, e = .returned (.agg #[u1, u2]) ∧ OwD w.heap.size w'.heap.size w' u1 u2 D ∧ Kb 0 w w' :=
  (sp_dcopy9 w ha hd).mono (fun e w' ⟨u1, u2, h1, h2, h3⟩ => ⟨u1, u2, h1, h2.owD, h3⟩)
end Go.Proofs.Ytiojjejphdhpeaa.Fo
