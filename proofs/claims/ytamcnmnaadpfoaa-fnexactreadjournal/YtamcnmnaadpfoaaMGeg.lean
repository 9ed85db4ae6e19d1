import Derived.Test.YtamcnmnaadpfoaaMGdf
import Derived.Test.YtamcnmnaadpfoaaMGcd
namespace Go.Proofs.Ytamcnmnaadpfoaa.Fo
open Go.ChangeShapes Go.WideShapes Go.ChangeAt Go.RowKit
set_option linter.unusedVariables false
set_option maxRecDepth 100000
theorem vok_lk {n : Nat} {v : Gv} (h : Vok n v) (hk : v.k = 4) : 0 ≤ v.r ∧ v.r < (n : Int) := by
  rcases h with h | h | h | h
  · have := h.1; omega
  · rcases h.1 with q | q <;> omega
  · have := h.1; omega
  · exact ⟨h.2.2.2.1, h.2.2.2.2⟩
theorem gok_lk {n : Nat} {F : Nat → Td} {a : Gv} (h : Gok n F a) : Lk n F a := ⟨vok_lk h.2.1, fun i hi j hj => vok_lk ((h.2.2 i hi).2 j hj)⟩
/-- the canonical order, root, count and nodes -/
def cO (n : Nat) (F : Nat → Td) (a : Gv) : List Int := ords F (ext [] a) n
noncomputable def cA (n : Nat) (F : Nat → Td) (a : Gv) : Gv := if dc (Gok n F a) = true then rnm (cO n F a) a else ⟨0, 0, ⟨#[]⟩, 0⟩
noncomputable def cN (n : Nat) (F : Nat → Td) (a : Gv) : Nat := if dc (Gok n F a) = true then (cO n F a).length else 0
def cF (n : Nat) (F : Nat → Td) (a : Gv) : Nat → Td := cnF F (cO n F a)
theorem nl_ords {n : Nat} {F : Nat → Td} {o : List Int} (h : Nl n o) (hl : ∀ i, i < n → ∀ j, j < (F i).c → ((F i).C j).k = 4 → 0 ≤ ((F i).C j).r ∧ ((F i).C j).r < (n : Int)) : ∀ i, Nl n (ords F o i)
  | 0 => h
  | i + 1 => by
    have hi := nl_ords h hl i
    rw [ords_succ]
    split
    · rename_i hlt
      exact nl_exts hi _ (hl _ (nth_lt hi hlt).1)
    · exact hi
theorem nl_cO {n : Nat} {F : Nat → Td} {a : Gv} (h : Lk n F a) : Nl n (cO n F a) := nl_ords (nl_ext ⟨List.nodup_nil, fun x hx => by cases hx⟩ h.lr) h.lv n
theorem rnm_x (o : List Int) (v : Gv) : (rnm o v).x = v.x := by
  unfold rnm
  split <;> rfl
theorem bg_can {n : Nat} {F : Nat → Td} {a : Gv} (hb : Bg n F a) : Bg (cN n F a) (cF n F a) (cA n F a) := by
  by_cases h : Gok n F a
  · have hnl := nl_cO (gok_lk h)
    unfold cN cA
    rw [if_pos (dc_t h), if_pos (dc_t h)]
    refine ⟨Nat.le_trans (nl_len _ _ hnl) hb.hn, by rw [rnm_x]; exact hb.hx, fun i hi => hb.hc _ (nth_lt hnl hi).1, fun i hi j hj => ?_⟩
    show (rnm _ _).x.size ≤ _
    rw [rnm_x]
    exact hb.hC _ (nth_lt hnl hi).1 j hj
  · unfold cN cA
    rw [if_neg (by rw [dc_f h]; decide), if_neg (by rw [dc_f h]; decide)]
    exact ⟨by omega, by show 0 ≤ _; omega, fun i hi => by omega, fun i hi => by omega⟩
theorem sm_bound (s : Nat → Nat) (B : Nat) : ∀ n, (∀ i, i < n → s i ≤ B) → sm s n ≤ n * B
  | 0, _ => by simp [sm]
  | n + 1, h => by
    have h1 := sm_bound s B n (fun i hi => h i (by omega))
    have h2 := h n (by omega)
    show sm s n + s n ≤ _
    rw [Nat.succ_mul]
    omega
theorem sm_can {n : Nat} {F : Nat → Td} {a : Gv} : sm (fun i => 1 + 4 * (cF n F a i).c) (cN n F a) ≤ 1000000 := by
  by_cases h : Gok n F a
  · have hnl := nl_cO (gok_lk h)
    unfold cN
    rw [if_pos (dc_t h)]
    have h1 := sm_bound (fun i => 1 + 4 * (cF n F a i).c) 1201 (cO n F a).length (fun i hi => by
      have := (h.2.2 _ (nth_lt hnl hi).1).1.2.2
      show 1 + 4 * (F (nth (cO n F a) i)).c ≤ 1201
      omega)
    have h2 := nl_len _ _ hnl
    have h3 := h.1
    have : (cO n F a).length * 1201 ≤ 600 * 1201 := Nat.mul_le_mul_right _ (by omega)
    omega
  · unfold cN
    rw [if_neg (by rw [dc_f h]; decide)]
    simp [sm]
theorem sm_four (F : Nat → Td) : ∀ n, sm (fun i => 1 + 4 * (F i).c) n ≤ n + 4 * sm (szT F) n
  | 0 => by simp [sm]
  | n + 1 => by
    have h := sm_four F n
    have e : szT F n = (F n).c + sm (fun j => ((F n).C j).x.size) (F n).c := rfl
    show sm (fun i => 1 + 4 * (F i).c) n + (1 + 4 * (F n).c) ≤ n + 1 + 4 * (sm (szT F) n + szT F n)
    omega
end Go.Proofs.Ytamcnmnaadpfoaa.Fo

namespace Go.Proofs.Ytamcnmnaadpfoaa.Fo
open Go.ChangeShapes Go.WideShapes Go.ChangeAt Go.RowKit
set_option linter.unusedVariables false
set_option maxRecDepth 100000
/-- five cells of the result are written -/
structure S5E (w W : World) (A : Gv) (v : Value) (m : Nat) (Fc : Nat → Td) : Prop where
  b : (s5 W (w.heap.size + 1) A.k A.m A.x A.r v).heap[w.heap.size + 1]? = some (.cells #[.int .i64 A.k, .int .i64 A.m, .string A.x, .int .i64 A.r, v] 44 (0, 0))
  r : RowT w.heap.size (s5 W (w.heap.size + 1) A.k A.m A.x A.r v) v m Fc
  k : Kb 0 w (s5 W (w.heap.size + 1) A.k A.m A.x A.r v)
theorem s5_end {w W : World} {A : Gv} {v : Value} {m : Nat} {Fc : Nat → Td} (kW : Kb 0 w W) (hs : w.heap.size + 2 ≤ W.heap.size) (hr : RowT (w.heap.size + 2) W v m Fc) (hbW : W.heap[w.heap.size + 1]? = some (.cells #[.int .i64 0, .int .i64 0, .string ⟨#[]⟩, .int .i64 0, .slice none 0 0] 44 (0, 0))) : S5E w W A v m Fc := by
  obtain ⟨X, hX⟩ : ∃ X, X = s5 W (w.heap.size + 1) A.k A.m A.x A.r v := ⟨_, rfl⟩
  have hf : ∀ g, g ≠ w.heap.size + 1 → X.heap[g]? = W.heap[g]? := fun g hg => by rw [hX]; exact s5_far _ _ _ _ _ _ hg
  have hz : X.heap.size = W.heap.size := by rw [hX]; exact s5_size _ _ _ _ _ _ _
  have ho : X.os = W.os := by rw [hX]; unfold s5 s4; rfl
  have hu : X.output = W.output := by rw [hX]; unfold s5 s4; rfl
  have k1 : Kb (w.heap.size + 2) W X := ⟨ho, hu, by omega, fun g hg _ => hf g (by omega)⟩
  have k2 : Kb 0 w X := ⟨ho.trans kW.os, hu.trans kW.output, by have := kW.size; omega, fun g _ hg => (hf g (by omega)).trans (kW.block g (Nat.zero_le _) hg)⟩
  have r1 : RowT w.heap.size X v m Fc := (hr.keep k1).mono (by omega)
  refine ⟨s5_known hbW _ _ _ _ _, ?_, ?_⟩
  · rw [← hX]; exact r1
  · rw [← hX]; exact k2
end Go.Proofs.Ytamcnmnaadpfoaa.Fo
