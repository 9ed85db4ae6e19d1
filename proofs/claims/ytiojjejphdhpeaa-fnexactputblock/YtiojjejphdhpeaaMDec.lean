import Derived.Test.YtiojjejphdhpeaaMDeb
import Derived.Test.YtiojjejphdhpeaaMDde
namespace Go.Proofs.Ytiojjejphdhpeaa.Fo
open Go.ChangeShapes Go.WideShapes Go.ChangeAt Go.RowKit
set_option linter.unusedVariables false
set_option maxRecDepth 100000
set_option linter.unusedSimpArgs false
/-- the pages behind those of the first k writes that are kept -/
def stk (P : Nat → Nat → Int) (Q : Nat → Ed) (kp : Nat → Bool) : Nat → Nat → Nat → Int
  | 0 => P
  | k + 1 => if kp k = true then pup (stk P Q kp k) (Q k).b.toNat (Q k).A else stk P Q kp k
theorem stk_all (P : Nat → Nat → Int) (Q : Nat → Ed) (kp : Nat → Bool) : ∀ m, (∀ j, j < m → kp j = true) → stk P Q kp m = stl P Q m
  | 0, _ => rfl
  | m + 1, h => by rw [stk, stl, if_pos (h m (by omega)), stk_all P Q kp m (fun j hj => h j (by omega))]
theorem OwE.put {L : Nat} {W W6 : World} {v : Value} {n : Nat} {F : Nat → Ed} {g : Nat} {V : Nat → Value} {G : Nat → Nat} {b : Nat} {x : Ed} {vx : Value} {gx : Nat} (h : OwE 1 L W.heap.size W v n F g V G) (hb : b < n) (k6 : Kb 0 W W6) (ox : OwnR W6 vx gx x.c (ub x.A)) (lx : 0 < x.c → W.heap.size ≤ gx ∧ gx < W6.heap.size) :
    (∃ u, W6.cell? ⟨g, b, none⟩ = some u) ∧ W6.frozen? ⟨g, b, none⟩ = false ∧ OwE 1 L (W6.setCell ⟨g, b, none⟩ vx).heap.size (W6.setCell ⟨g, b, none⟩ vx) v n (fun i => if i = b then x else F i) g (fun i => if i = b then vx else V i) (fun i => if i = b then gx else G i) := by
  have bg := h.bg (by omega)
  have z6 := k6.size
  have bl : ∀ q, q < W.heap.size → q ≠ g → (W6.setCell ⟨g, b, none⟩ vx).heap[q]? = W.heap[q]? := fun q h1 h2 => (Below.heap_setCell _ _ _ _ h2).trans (k6.block q (Nat.zero_le _) h1)
  have cell6 : ∀ j, j < n → W6.cell? ⟨g, j, none⟩ = some (V j) := fun j hj => by
    have := h.cs j hj 0 (by omega)
    rw [Nat.mul_one, Nat.add_zero] at this
    exact k6.cell (this.trans rfl)
  have fz6 : ∀ j, W6.frozen? ⟨g, j, none⟩ = false := fun j => (World.frozen?_of_block (k6.block g (Nat.zero_le _) bg.2)).trans (h.fz (by omega) j)
  have zz : (W6.setCell ⟨g, b, none⟩ vx).heap.size = W6.heap.size := World.size_setCell _ _ _
  refine ⟨⟨_, cell6 b hb⟩, fz6 b, h.sl, fun _ => ⟨bg.1, by rw [zz]; omega⟩, fun j hj t ht => ?_, fun _ j => ?_, fun i hi => ?_, fun i hi hc => ?_, fun i j hi hj hij hci hcj => ?_⟩
  · obtain rfl : t = 0 := by omega
    rw [Nat.mul_one, Nat.add_zero]
    show _ = (hdl 1 (if j = b then x else F j) ++ [if j = b then vx else V j])[0]?
    by_cases e : j = b
    · subst e
      rw [if_pos rfl, if_pos rfl, set_eq _ _ _ _ _ (cell6 j hb)]
      rfl
    · rw [if_neg e, if_neg e, set_ne _ _ _ _ _ e, cell6 j hj]
      rfl
  · rw [World.frozen?_setCell]
    exact fz6 j
  · by_cases e : i = b
    · subst e
      rw [if_pos rfl, if_pos rfl, if_pos rfl]
      exact ox.kb (fun hc => Below.heap_setCell _ _ _ _ (show gx ≠ g by have := lx (by omega); omega))
    · rw [if_neg e, if_neg e, if_neg e]
      refine (h.ow i hi).kb (fun hc => ?_)
      obtain ⟨q1, q2, q3⟩ := h.lo i hi (by omega)
      exact bl _ q2 q3
  · by_cases e : i = b
    · subst e
      rw [if_pos rfl] at hc ⊢
      have := lx hc
      rw [zz]
      omega
    · rw [if_neg e] at hc ⊢
      obtain ⟨q1, q2, q3⟩ := h.lo i hi hc
      rw [zz]
      exact ⟨q1, by omega, q3⟩
  · by_cases e : i = b
    · subst e
      rw [if_pos rfl] at hci ⊢
      rw [if_neg (fun q => hij q.symm)] at hcj ⊢
      have := lx hci
      have := (h.lo j hj hcj).2.1
      omega
    · rw [if_neg e] at hci ⊢
      by_cases e' : j = b
      · subst e'
        rw [if_pos rfl] at hcj ⊢
        have := lx hcj
        have := (h.lo i hi hci).2.1
        omega
      · rw [if_neg e'] at hcj ⊢
        exact h.di i j hi hj hij hci hcj
/-- a settling under way: the blocks at P5 hold these pages -/
def SI (L g P5 : Nat) (v : Value) (w0 : World) (P : Nat → Nat → Int) (wr : World) : Prop := (∃ V G, OwE 1 L wr.heap.size wr v 258 (pE P) g V G) ∧ wr.heap[P5]? = some (.cells #[v, .slice none 0 0] 30 (0, 0)) ∧ Kb 0 w0 wr ∧ w0.heap.size ≤ L ∧ w0.heap.size ≤ P5 ∧ P5 < wr.heap.size ∧ P5 ≠ g ∧ L ≤ g
theorem SI.keep {L g P5 : Nat} {v : Value} {w0 : World} {P : Nat → Nat → Int} {wr W : World} (h : SI L g P5 v w0 P wr) (k : Kb 0 wr W) : SI L g P5 v w0 P W := by
  obtain ⟨⟨V, G, o⟩, d, kw, l1, l2, l3, l4, l5⟩ := h
  have := k.size
  exact ⟨⟨V, G, (o.block (fun q _ h2 => k.block q (Nat.zero_le _) h2)).wide (Nat.le_refl _) (by omega)⟩, (k.block _ (Nat.zero_le _) l3).trans d, kw.trans k, l1, l2, by omega, l4, l5⟩
theorem SI.put {L g P5 : Nat} {v : Value} {w0 : World} {P : Nat → Nat → Int} {W W6 : World} {b : Nat} {A : Nat → Int} {vx : Value} {gx : Nat} (h : SI L g P5 v w0 P W) (hb : b < 258) (k6 : Kb 0 W W6) (ox : OwnR W6 vx gx 64 (ub A)) (lx : W.heap.size ≤ gx ∧ gx < W6.heap.size) :
    ((∃ u, W6.cell? ⟨g, b, none⟩ = some u) ∧ W6.frozen? ⟨g, b, none⟩ = false) ∧ SI L g P5 v w0 (pup P b A) (W6.setCell ⟨g, b, none⟩ vx) := by
  obtain ⟨⟨V, G, o⟩, d, kw, l1, l2, l3, l4, l5⟩ := h
  obtain ⟨c1, f1, o1⟩ := o.put (x := ⟨false, 0, 64, A⟩) hb k6 ox (fun _ => lx)
  have e : (fun i => if i = b then (⟨false, 0, 64, A⟩ : Ed) else pE P i) = pE (pup P b A) := by
    funext i
    unfold pE pup
    by_cases q : i = b
    · rw [if_pos q, if_pos q]
    · rw [if_neg q, if_neg q]
  rw [e] at o1
  have z6 := k6.size
  refine ⟨⟨c1, f1⟩, ⟨_, _, o1⟩, ?_, (kw.trans k6).setCell _ (.inr (by show w0.heap.size ≤ g; omega)) _, l1, l2, by rw [World.size_setCell]; omega, l4, l5⟩
  rw [Below.heap_setCell _ _ _ _ (show P5 ≠ g from l4)]
  exact (k6.block _ (Nat.zero_le _) l3).trans d
end Go.Proofs.Ytiojjejphdhpeaa.Fo
