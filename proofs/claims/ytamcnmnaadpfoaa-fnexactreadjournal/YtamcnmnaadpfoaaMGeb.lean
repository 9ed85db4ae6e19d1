import Derived.Deep.RegionHeld3
import Derived.Test.YtamcnmnaadpfoaaMGbb
import Derived.Test.YtamcnmnaadpfoaaMBae
import Derived.Test.YtamcnmnaadpfoaaMGde
namespace Go.Proofs.Ytamcnmnaadpfoaa.Fo
open Go.ChangeShapes Go.WideShapes Go.ChangeAt Go.RowKit
set_option linter.unusedVariables false
set_option maxRecDepth 100000
/-- what a marking from k on writes into cell j of a row of values -/
def mkv (k : Int) (j : Nat) : Value := if j % 4 = 2 then .string (⟨#[109]⟩ ++ mtl (k + (j : Int)).toNat ⟨#[]⟩) else .int .i64 (k + (j : Int))
theorem mkv_int {k K : Int} {j : Nat} (h : j % 4 ≠ 2) (e : k + (j : Int) = K) : mkv k j = .int .i64 K := by
  unfold mkv
  rw [if_neg h, e]
theorem mkv_str {k K : Int} {j : Nat} (h : j % 4 = 2) (e : k + (j : Int) = K) : mkv k j = .string (⟨#[109]⟩ ++ mtl K.toNat ⟨#[]⟩) := by
  unfold mkv
  rw [if_pos h, e]
/-- a row of values that lies alone in a block -/
def OwV (W : World) (v : Value) (b c : Nat) : Prop := ∃ p cap, v = .slice p c cap ∧ (0 < c → p = some ⟨b, 0, none⟩ ∧ c ≤ cap ∧ (∀ j, j < c * 4 → ∃ u, W.cell? ⟨b, j, none⟩ = some u) ∧ ∀ j, W.frozen? ⟨b, j, none⟩ = false)
/-- such a row, marked from k on -/
def MdV (W : World) (v : Value) (b c : Nat) (k : Int) : Prop := ∃ p cap, v = .slice p c cap ∧ (0 < c → p = some ⟨b, 0, none⟩ ∧ c ≤ cap ∧ ∀ j, j < c * 4 → W.cell? ⟨b, j, none⟩ = some (mkv k j))
theorem MdV.block {W W' : World} {v : Value} {b c : Nat} {k : Int} (h : MdV W v b c k) (hb : 0 < c → W'.heap[b]? = W.heap[b]?) : MdV W' v b c k := by
  obtain ⟨p, cap, h1, h2⟩ := h
  exact ⟨p, cap, h1, fun hc => ⟨(h2 hc).1, (h2 hc).2.1, fun j hj => (World.cell?_of_block (hb hc)).trans ((h2 hc).2.2 j hj)⟩⟩
theorem OwV.block {W W' : World} {v : Value} {b c : Nat} (h : OwV W v b c) (hb : 0 < c → W'.heap[b]? = W.heap[b]?) : OwV W' v b c := by
  obtain ⟨p, cap, h1, h2⟩ := h
  refine ⟨p, cap, h1, fun hc => ⟨(h2 hc).1, (h2 hc).2.1, fun j hj => ?_, fun j => (World.frozen?_of_block (hb hc)).trans ((h2 hc).2.2.2 j)⟩⟩
  obtain ⟨u, hu⟩ := (h2 hc).2.2.1 j hj
  exact ⟨u, (World.cell?_of_block (hb hc)).trans hu⟩
end Go.Proofs.Ytamcnmnaadpfoaa.Fo

namespace Go.Proofs.Ytamcnmnaadpfoaa.Fo
open Go.ChangeShapes Go.WideShapes Go.ChangeAt Go.RowKit
set_option linter.unusedVariables false
set_option maxRecDepth 100000
/-- a graph's nodes in blocks of their own, between L and H -/
structure OwG (L H : Nat) (W : World) (v : Value) (n : Nat) (c : Nat → Nat) (g : Nat) (V : Nat → Value) (G : Nat → Nat) : Prop where
  sl : ∃ p cap, v = .slice p n cap ∧ (0 < n → p = some ⟨g, 0, none⟩ ∧ n ≤ cap)
  bg : 0 < n → L ≤ g ∧ g < H
  tg : ∀ i, i < n → ∃ u, W.cell? ⟨g, i * 2, none⟩ = some u
  rw : ∀ i, i < n → W.cell? ⟨g, i * 2 + 1, none⟩ = some (V i)
  fz : 0 < n → ∀ j, W.frozen? ⟨g, j, none⟩ = false
  ow : ∀ i, i < n → OwV W (V i) (G i) (c i)
  lo : ∀ i, i < n → 0 < c i → L ≤ G i ∧ G i < H ∧ G i ≠ g
  di : ∀ i j, i < n → j < n → i ≠ j → 0 < c i → 0 < c j → G i ≠ G j
theorem OwG.block {L H : Nat} {W W' : World} {v : Value} {n : Nat} {c : Nat → Nat} {g : Nat} {V : Nat → Value} {G : Nat → Nat} (h : OwG L H W v n c g V G) (hb : ∀ q, L ≤ q → q < H → W'.heap[q]? = W.heap[q]?) : OwG L H W' v n c g V G := by
  refine ⟨h.sl, h.bg, fun i hi => ?_, fun i hi => ?_, fun hn j => ?_, fun i hi => ?_, h.lo, h.di⟩
  · have hg := h.bg (by omega)
    obtain ⟨u, hu⟩ := h.tg i hi
    exact ⟨u, (World.cell?_of_block (hb g hg.1 hg.2)).trans hu⟩
  · have hg := h.bg (by omega)
    exact (World.cell?_of_block (hb g hg.1 hg.2)).trans (h.rw i hi)
  · have hg := h.bg hn
    exact (World.frozen?_of_block (hb g hg.1 hg.2)).trans (h.fz hn j)
  · exact (h.ow i hi).block (fun hc => hb _ (h.lo i hi hc).1 (h.lo i hi hc).2.1)
/-- such nodes, marked from k on -/
structure MdG (L H : Nat) (W : World) (v : Value) (n : Nat) (c : Nat → Nat) (g : Nat) (V : Nat → Value) (G : Nat → Nat) (k : Int) : Prop where
  sl : ∃ p cap, v = .slice p n cap ∧ (0 < n → p = some ⟨g, 0, none⟩ ∧ n ≤ cap)
  bg : 0 < n → L ≤ g ∧ g < H
  tag : ∀ i, i < n → W.cell? ⟨g, i * 2, none⟩ = some (.int .i64 (k + (sm (fun i => 1 + 4 * c i) i : Int)))
  rw : ∀ i, i < n → W.cell? ⟨g, i * 2 + 1, none⟩ = some (V i)
  md : ∀ i, i < n → MdV W (V i) (G i) (c i) (k + (sm (fun i => 1 + 4 * c i) i : Int) + 1)
  lo : ∀ i, i < n → 0 < c i → L ≤ G i ∧ G i < H
theorem MdG.block {L H : Nat} {W W' : World} {v : Value} {n : Nat} {c : Nat → Nat} {g : Nat} {V : Nat → Value} {G : Nat → Nat} {k : Int} (h : MdG L H W v n c g V G k) (hb : ∀ q, L ≤ q → q < H → W'.heap[q]? = W.heap[q]?) : MdG L H W' v n c g V G k := by
  refine ⟨h.sl, h.bg, fun i hi => ?_, fun i hi => ?_, fun i hi => ?_, h.lo⟩
  · have hg := h.bg (by omega)
    exact (World.cell?_of_block (hb g hg.1 hg.2)).trans (h.tag i hi)
  · have hg := h.bg (by omega)
    exact (World.cell?_of_block (hb g hg.1 hg.2)).trans (h.rw i hi)
  · exact (h.md i hi).block (fun hc => hb _ (h.lo i hi hc).1 (h.lo i hi hc).2)
/-- a marking under way: i nodes are marked -/
structure GS (L H : Nat) (W : World) (n : Nat) (c : Nat → Nat) (g : Nat) (V : Nat → Value) (G : Nat → Nat) (k : Int) (i : Nat) (wr : World) : Prop where
  kq : Kq (fun q => L ≤ q ∧ q < H) W wr
  tg : ∀ j, j < n → ∃ u, wr.cell? ⟨g, j * 2, none⟩ = some u
  rw : ∀ j, j < n → wr.cell? ⟨g, j * 2 + 1, none⟩ = some (V j)
  fz : ∀ j, wr.frozen? ⟨g, j, none⟩ = false
  ow : ∀ j, i ≤ j → j < n → OwV wr (V j) (G j) (c j)
  tag : ∀ j, j < i → wr.cell? ⟨g, j * 2, none⟩ = some (.int .i64 (k + (sm (fun i => 1 + 4 * c i) j : Int)))
  md : ∀ j, j < i → MdV wr (V j) (G j) (c j) (k + (sm (fun i => 1 + 4 * c i) j : Int) + 1)
theorem GS.step {L H : Nat} {W : World} {n : Nat} {c : Nat → Nat} {g : Nat} {V : Nat → Value} {G : Nat → Nat} {k K : Int} {i : Nat} {wr w6 : World} (h : GS L H W n c g V G k i wr) (hi : i < n) (hK : K = k + (sm (fun i => 1 + 4 * c i) i : Int)) (bg : L ≤ g ∧ g < H) (lo : ∀ i, i < n → 0 < c i → L ≤ G i ∧ G i < H ∧ G i ≠ g) (di : ∀ i j, i < n → j < n → i ≠ j → 0 < c i → 0 < c j → G i ≠ G j) (kq6 : Kq (fun q => 0 < c i ∧ q = G i) (wr.setCell ⟨g, i * 2, none⟩ (.int .i64 K)) w6) (md6 : MdV w6 (V i) (G i) (c i) (K + 1)) : GS L H W n c g V G k (i + 1) w6 := by
  have hgl : g < wr.heap.size := lt_of_cell (h.rw i hi)
  have hys : (wr.setCell ⟨g, i * 2, none⟩ (.int .i64 K)).heap.size = wr.heap.size := World.size_setCell _ _ _
  have hg6 : w6.heap[g]? = (wr.setCell ⟨g, i * 2, none⟩ (.int .i64 K)).heap[g]? := kq6.block g (by omega) (fun e => (lo i hi e.1).2.2 e.2.symm)
  have cg : ∀ j, w6.cell? ⟨g, j, none⟩ = (wr.setCell ⟨g, i * 2, none⟩ (.int .i64 K)).cell? ⟨g, j, none⟩ := fun j => World.cell?_of_block hg6
  have bk : ∀ j, j < n → j ≠ i → 0 < c j → w6.heap[G j]? = wr.heap[G j]? := fun j hj hne hc => by
    have hl : G j ≠ g := (lo j hj hc).2.2
    rcases Nat.lt_or_ge (G j) wr.heap.size with hs | hs
    · rw [kq6.block (G j) (by omega) (fun e => di j i hj hi hne hc e.1 e.2), Below.heap_setCell _ _ _ _ hl]
    · exfalso
      rcases Nat.lt_or_ge j i with q | q
      · obtain ⟨p, cap, _, h2⟩ := h.md j q
        exact absurd (lt_of_cell ((h2 hc).2.2 0 (by omega))) (by omega)
      · obtain ⟨p, cap, _, h2⟩ := h.ow j q hj
        obtain ⟨u, hu⟩ := (h2 hc).2.2.1 0 (by omega)
        exact absurd (lt_of_cell hu) (by omega)
  obtain ⟨u0, hu0⟩ := h.tg i hi
  refine ⟨⟨kq6.os.trans h.kq.os, kq6.tape.trans h.kq.tape, kq6.output.trans h.kq.output, Nat.le_trans h.kq.size (Nat.le_trans (Nat.le_of_eq hys.symm) kq6.size), fun q hq hs => ?_⟩, fun j hj => ?_, fun j hj => ?_, fun j => ?_, fun j h1 h2 => ?_, fun j hj => ?_, fun j hj => ?_⟩
  · rw [kq6.block q (by have := h.kq.size; omega) (fun e => hs (e.2 ▸ ⟨(lo i hi e.1).1, (lo i hi e.1).2.1⟩)), Below.heap_setCell _ _ _ _ (show q ≠ g from fun e => hs (e ▸ bg))]
    exact h.kq.block q hq hs
  · rw [cg]
    by_cases e : j = i
    · subst e; exact ⟨_, set_eq _ _ _ _ _ hu0⟩
    · rw [set_ne _ _ _ _ _ (by omega)]; exact h.tg j hj
  · rw [cg, set_ne _ _ _ _ _ (by omega)]; exact h.rw j hj
  · rw [World.frozen?_of_block hg6, set_fz]; exact h.fz j
  · exact (h.ow j (by omega) h2).block (fun hc => bk j h2 (by omega) hc)
  · rw [cg]
    by_cases e : j = i
    · subst e; rw [← hK]; exact set_eq _ _ _ _ _ hu0
    · rw [set_ne _ _ _ _ _ (by omega)]; exact h.tag j (by omega)
  · by_cases e : j = i
    · subst e; rw [← hK]; exact md6
    · exact (h.md j (by omega)).block (fun hc => bk j (by omega) e hc)
end Go.Proofs.Ytamcnmnaadpfoaa.Fo
