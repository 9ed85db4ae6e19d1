import Derived.Test.YtamcnmnaadpfoaaMGbb
import Derived.Test.YtamcnmnaadpfoaaMGeb
namespace Go.Proofs.Ytamcnmnaadpfoaa.Fo
open Go.ChangeShapes Go.WideShapes Go.ChangeAt Go.RowKit
set_option linter.unusedVariables false
set_option maxRecDepth 100000
end Go.Proofs.Ytamcnmnaadpfoaa.Fo

namespace Go.Proofs.Ytamcnmnaadpfoaa.Fo
open Go.ChangeShapes Go.WideShapes Go.ChangeAt Go.RowKit
set_option linter.unusedVariables false
set_option maxRecDepth 100000
end Go.Proofs.Ytamcnmnaadpfoaa.Fo

namespace Go.Proofs.Ytamcnmnaadpfoaa.Fo
open Go.ChangeShapes Go.WideShapes Go.ChangeAt Go.RowKit
set_option linter.unusedVariables false
set_option maxRecDepth 100000
/-- a row of values in a block of its own, not before b -/
def RowX (b : Nat) (W : World) (v : Value) (c : Nat) (C : Nat → Gv) : Prop := RowW b W v c C ∧ ∃ bb, b ≤ bb ∧ bb < W.heap.size ∧ OwV W v bb c
theorem RowX.keep {b : Nat} {W W' : World} {v : Value} {c : Nat} {C : Nat → Gv} (h : RowX b W v c C) (k : Kb b W W') : RowX b W' v c C := by
  obtain ⟨h1, bb, h2, h3, h4⟩ := h
  exact ⟨h1.keep k, bb, h2, Nat.lt_of_lt_of_le h3 k.size, h4.block (fun _ => k.block bb h2 h3)⟩
theorem RowX.mono {b d : Nat} {W : World} {v : Value} {c : Nat} {C : Nat → Gv} (h : RowX b W v c C) (hd : d ≤ b) : RowX d W v c C := by
  obtain ⟨h1, bb, h2, h3⟩ := h
  exact ⟨h1.mono hd, bb, Nat.le_trans hd h2, h3⟩
def RowTX (b : Nat) (W : World) (v : Value) (n : Nat) (F : Nat → Td) : Prop := RowT b W v n F ∧ ∃ g V G, OwG b W.heap.size W v n (fun i => (F i).c) g V G
theorem OwG.wide {L H L' H' : Nat} {W : World} {v : Value} {n : Nat} {c : Nat → Nat} {g : Nat} {V : Nat → Value} {G : Nat → Nat} (h : OwG L H W v n c g V G) (hL : L' ≤ L) (hH : H ≤ H') : OwG L' H' W v n c g V G :=
  ⟨h.sl, fun hn => ⟨Nat.le_trans hL (h.bg hn).1, Nat.lt_of_lt_of_le (h.bg hn).2 hH⟩, h.tg, h.rw, h.fz, h.ow, fun i hi hc => ⟨Nat.le_trans hL (h.lo i hi hc).1, Nat.lt_of_lt_of_le (h.lo i hi hc).2.1 hH, (h.lo i hi hc).2.2⟩, h.di⟩
theorem RowTX.keep {b : Nat} {W W' : World} {v : Value} {n : Nat} {F : Nat → Td} (h : RowTX b W v n F) (k : Kb b W W') : RowTX b W' v n F := by
  obtain ⟨h1, g, V, G, h2⟩ := h
  exact ⟨h1.keep k, g, V, G, (h2.block (fun q h3 h4 => k.block q h3 h4)).wide (Nat.le_refl _) k.size⟩
theorem RowTX.mono {b d : Nat} {W : World} {v : Value} {n : Nat} {F : Nat → Td} (h : RowTX b W v n F) (hd : d ≤ b) : RowTX d W v n F := by
  obtain ⟨h1, g, V, G, h2⟩ := h
  exact ⟨h1.mono hd, g, V, G, h2.wide hd (Nat.le_refl _)⟩
/-- nodes being copied: i are done -/
def Tst (w1 : World) (G n : Nat) (F : Nat → Td) (i : Nat) (W : World) : Prop := ∃ (E : Nat → List Value) (V : Nat → Value) (Gf : Nat → Nat), Mk 2 w1 G n E i W ∧ (∀ j, j < i → E j = [.int .i64 (F j).t, V j] ∧ RowW (G + 1) W (V j) (F j).c (F j).C ∧ OwV W (V j) (Gf j) (F j).c ∧ G + 1 ≤ Gf j ∧ Gf j < W.heap.size) ∧ ∀ j j', j < j' → j' < i → Gf j < Gf j'
theorem Tst.step {w1 : World} {G n : Nat} {F : Nat → Td} {i : Nat} {wr w6 : World} {v0 : Value} (h : Tst w1 G n F i wr) (hi : i < n) (k6 : Kb 0 wr w6) (r0 : RowX wr.heap.size w6 v0 (F i).c (F i).C) : (∀ t, t < 2 → ∃ u, w6.cell? ⟨G, i * 2 + t, none⟩ = some u) ∧ (∀ j, w6.frozen? ⟨G, j, none⟩ = false) ∧ Tst w1 G n F (i + 1) (setL w6 G (i * 2) [.int .i64 (F i).t, v0]) := by
  obtain ⟨E, V, Gf, hM, hR, hO⟩ := h
  have h6 := hM.kb k6
  have hgl := Nat.lt_of_lt_of_le hM.gl hM.size
  have kl : Kb (G + 1) w6 (setL w6 G (i * 2) [.int .i64 (F i).t, v0]) := ⟨(setL_os _ _ _ _).1, (setL_os _ _ _ _).2, by rw [setL_size]; exact Nat.le_refl _, fun k h1 _ => setL_block _ _ (by omega) _ _ _⟩
  obtain ⟨q1, bb, q2, q3, q4⟩ := (r0.mono (show G + 1 ≤ wr.heap.size by omega)).keep kl
  obtain ⟨_, bb', q2', q3', q4'⟩ := r0
  refine ⟨h6.rest i (Nat.le_refl _) hi, h6.fz, _, fun j => if j = i then v0 else V j, fun j => if j = i then bb' else Gf j, h6.step hi rfl, fun j hj => ?_, fun j j' h1 h2 => ?_⟩
  · by_cases e : j = i
    · subst e
      simp only [↓reduceIte]
      exact ⟨trivial, q1, q4'.block (fun _ => kl.block bb' (by omega) q3'), by omega, by rw [setL_size]; exact q3'⟩
    · simp only [if_neg e]
      obtain ⟨p1, p2, p3, p4, p5⟩ := hR j (by omega)
      have hs := k6.size
      exact ⟨p1, (p2.keep (k6.mono (Nat.zero_le _))).keep kl, p3.block (fun _ => (kl.block _ p4 (by omega)).trans (k6.block _ (Nat.zero_le _) p5)), p4, by rw [setL_size]; omega⟩
  · show (if j = i then bb' else Gf j) < (if j' = i then bb' else Gf j')
    rw [if_neg (by omega)]
    by_cases e : j' = i
    · subst e
      rw [if_pos rfl]
      obtain ⟨_, _, _, _, p5⟩ := hR j h1
      omega
    · rw [if_neg e]
      exact hO j j' h1 (by omega)
theorem Tst.row {w1 : World} {G n : Nat} {F : Nat → Td} {W : World} (h : Tst w1 G n F n W) : RowTX G W (.slice (some ⟨G, 0, none⟩) n n) n F := by
  obtain ⟨E, V, Gf, hM, hR, hO⟩ := h
  have hgl := Nat.lt_of_lt_of_le hM.gl hM.size
  refine ⟨⟨_, _, rfl, fun _ => ⟨⟨G, 0, none⟩, rfl, Nat.le_refl _, Nat.le_refl _, fun j hj => ?_⟩⟩, G, V, Gf, ⟨⟨_, _, rfl, fun _ => ⟨rfl, Nat.le_refl _⟩⟩, fun _ => ⟨Nat.le_refl _, hgl⟩, fun j hj => ?_, fun j hj => ?_, fun _ => hM.fz, fun j hj => (hR j hj).2.2.1, fun j hj _ => ?_, fun j j' h1 h2 hne _ _ => ?_⟩⟩
  · rw [addr0]
    have hce := hM.ce j hj
    obtain ⟨q1, q2, _⟩ := hR j hj
    rw [q1] at hce
    exact ⟨V j, CelT.of hce, q2.mono (by omega)⟩
  · have hce := hM.ce j hj 0 (by omega)
    rw [(hR j hj).1] at hce
    exact ⟨_, hce⟩
  · have hce := hM.ce j hj 1 (by omega)
    rw [(hR j hj).1] at hce
    exact hce
  · obtain ⟨_, _, _, p4, p5⟩ := hR j hj
    exact ⟨by omega, p5, by omega⟩
  · rcases Nat.lt_or_gt_of_ne hne with q | q
    · have := hO j j' q h2; omega
    · have := hO j' j q h1; omega
end Go.Proofs.Ytamcnmnaadpfoaa.Fo
