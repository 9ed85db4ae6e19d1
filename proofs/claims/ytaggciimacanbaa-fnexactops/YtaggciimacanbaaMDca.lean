import Derived.Test.YtaggciimacanbaaMDag
import Derived.Test.YtaggciimacanbaaMGde
namespace Go.Proofs.Ytaggciimacanbaa.Fo
open Go.ChangeShapes Go.WideShapes Go.ChangeAt Go.RowKit
set_option linter.unusedVariables false
set_option maxRecDepth 100000
/-- the cells of the first n elements -/
def cel (K : Nat) (F : Nat → Ed) (V : Nat → Value) : Nat → List Value
  | 0 => []
  | n + 1 => cel K F V n ++ (hdl K (F n) ++ [V n])
theorem cel_len {K : Nat} (hK : K = 1 ∨ K = 2 ∨ K = 3) (F : Nat → Ed) (V : Nat → Value) : ∀ n, (cel K F V n).length = n * K
  | 0 => by rw [Nat.zero_mul]; rfl
  | n + 1 => by rw [cel, List.length_append, cel_len hK F V n, hd_len hK, Nat.add_mul, Nat.one_mul]
theorem cel_at {K : Nat} (hK : K = 1 ∨ K = 2 ∨ K = 3) (F : Nat → Ed) (V : Nat → Value) (t : Nat) (ht : t < K) : ∀ n j, j < n → (cel K F V n)[j * K + t]? = (hdl K (F j) ++ [V j])[t]?
  | 0, j, h => by omega
  | n + 1, j, h => by
    rw [cel]
    rcases Nat.lt_or_ge j n with q | q
    · have : (j + 1) * K ≤ n * K := Nat.mul_le_mul_right K q
      rw [Nat.add_mul, Nat.one_mul] at this
      rw [List.getElem?_append_left (by rw [cel_len hK]; omega)]
      exact cel_at hK F V t ht n j q
    · obtain rfl : j = n := by omega
      rw [List.getElem?_append_right (by rw [cel_len hK]; omega), cel_len hK, Nat.add_sub_cancel_left]
theorem cel_ext (K : Nat) (F : Nat → Ed) {V V' : Nat → Value} : ∀ n, (∀ j, j < n → V j = V' j) → cel K F V n = cel K F V' n
  | 0, _ => rfl
  | n + 1, h => by rw [cel, cel, cel_ext K F n (fun j hj => h j (by omega)), h n (by omega)]
/-- a row that grows by appends, each element in a block of its own -/
structure BE (K B : Nat) (ty : TypeId) (W : World) (v : Value) (n : Nat) (F : Nat → Ed) (V : Nat → Value) (G : Nat → Nat) : Prop where
  ro : W.ownsRow B ty K v n (cel K F V n)
  ow : ∀ i, i < n → OwnR W (V i) (G i) (F i).c (ub (F i).A)
  lo : ∀ i, i < n → 0 < (F i).c → B ≤ G i ∧ G i < W.heap.size ∧ some (G i) ≠ v.ownBlock
  di : ∀ i j, i < n → j < n → i ≠ j → 0 < (F i).c → 0 < (F j).c → G i ≠ G j
theorem BE.nil (K B : Nat) (ty : TypeId) (W : World) (F : Nat → Ed) (V : Nat → Value) (G : Nat → Nat) : BE K B ty W (.slice none 0 0) 0 F V G :=
  ⟨World.ownsRow_nil _ _ _ _, fun i hi => by omega, fun i hi => by omega, fun i j hi => by omega⟩
theorem BE.keep {K B : Nat} {ty : TypeId} {W W' : World} {v : Value} {n : Nat} {F : Nat → Ed} {V : Nat → Value} {G : Nat → Nat} (h : BE K B ty W v n F V G) (hs : W.heap.size ≤ W'.heap.size) (k : ∀ q, B ≤ q → q < W.heap.size → W'.heap[q]? = W.heap[q]?) : BE K B ty W' v n F V G := by
  refine ⟨own_keep h.ro (fun g hg => ?_), fun i hi => (h.ow i hi).kb (fun hc => ?_), fun i hi hc => ?_, h.di⟩
  · obtain ⟨q1, q2⟩ := h.ro.lt g hg
    exact k g q1 q2
  · obtain ⟨q1, q2, _⟩ := h.lo i hi (by omega)
    exact k _ q1 q2
  · obtain ⟨q1, q2, q3⟩ := h.lo i hi hc
    exact ⟨q1, by omega, q3⟩
theorem BE.step {K B : Nat} {ty : TypeId} {W W6 W8 : World} {v : Value} {n : Nat} {F : Nat → Ed} {V : Nat → Value} {G : Nat → Nat} {ob : Obj} {vx : Value} {gx g cap : Nat} (h : BE K B ty W v n F V G) (hB : B ≤ W.heap.size) (hs : W.heap.size ≤ W6.heap.size) (k6 : ∀ q, B ≤ q → q < W.heap.size → W6.heap[q]? = W.heap[q]?)
    (ox : OwnR W6 vx gx (F n).c (ub (F n).A)) (lx : 0 < (F n).c → W.heap.size ≤ gx ∧ gx < W6.heap.size)
    (h8 : W8.ownsRow B ty K (.slice (some ⟨g, 0, none⟩) (n + 1) cap) (n + 1) (cel K F V n ++ (hdl K (F n) ++ [vx]))) (g8 : (W6.alloc ob).grownBy W8 v.ownBlock) (ha : v.ownBlock = some g ∨ g = W6.heap.size + 1) :
    BE K B ty W8 (.slice (some ⟨g, 0, none⟩) (n + 1) cap) (n + 1) F (fun q => if q = n then vx else V q) (fun q => if q = n then gx else G q) := by
  have h6 := h.keep hs k6
  have z8 : W6.heap.size + 1 ≤ W8.heap.size := by have := g8.size; rw [World.size_alloc] at this; exact this
  have b8 : ∀ q, q < W6.heap.size → some q ≠ v.ownBlock → W8.heap[q]? = W6.heap[q]? := fun q hq hn => (g8.block q (by rw [World.size_alloc]; omega) hn).trans ((kb_alloc 0 W6 ob).block q (Nat.zero_le _) hq)
  have nx : 0 < (F n).c → some gx ≠ v.ownBlock := fun hc e => by
    have := (h.ro.lt gx e.symm).2
    have := (lx hc).1
    omega
  have ng : ∀ q, q < W6.heap.size → some q ≠ v.ownBlock → some q ≠ (Value.slice (some ⟨g, 0, none⟩) (n + 1) cap).ownBlock := fun q hq hn e => by
    have e' : q = g := by simpa [Value.ownBlock] using e
    rcases ha with a | a
    · exact hn (by rw [a, e'])
    · omega
  refine ⟨?_, fun i hi => ?_, fun i hi hc => ?_, fun i j hi hj hij hci hcj => ?_⟩
  · have e : cel K F (fun q => if q = n then vx else V q) (n + 1) = cel K F V n ++ (hdl K (F n) ++ [vx]) := by
      rw [cel, cel_ext K F n (V' := V) (fun j hj => if_neg (by omega)), if_pos rfl]
    rw [e]
    exact h8
  · by_cases e : i = n
    · subst e
      rw [if_pos rfl, if_pos rfl]
      exact ox.kb (fun hc => b8 _ (lx (by omega)).2 (nx (by omega)))
    · rw [if_neg e, if_neg e]
      refine (h6.ow i (by omega)).kb (fun hc => ?_)
      obtain ⟨q1, q2, q3⟩ := h6.lo i (by omega) (by omega)
      exact b8 _ q2 q3
  · by_cases e : i = n
    · subst e
      rw [if_pos rfl]
      have := lx hc
      exact ⟨by omega, by omega, ng _ (lx hc).2 (nx hc)⟩
    · rw [if_neg e]
      obtain ⟨q1, q2, q3⟩ := h6.lo i (by omega) hc
      exact ⟨q1, by omega, ng _ q2 q3⟩
  · by_cases e : i = n
    · subst e
      rw [if_pos rfl, if_neg (fun q => hij q.symm)]
      have := (h.lo j (by omega) hcj).2.1
      have := lx hci
      omega
    · by_cases e' : j = n
      · subst e'
        rw [if_pos rfl, if_neg e]
        have := (h.lo i (by omega) hci).2.1
        have := lx hcj
        omega
      · rw [if_neg e, if_neg e']
        exact h.di i j (by omega) (by omega) hij hci hcj
theorem BE.owE {K B : Nat} {ty : TypeId} {W : World} {v : Value} {n : Nat} {F : Nat → Ed} {V : Nat → Value} {G : Nat → Nat} (hK : K = 1 ∨ K = 2 ∨ K = 3) (h : BE K B ty W v n F V G) : ∃ g, OwE K B W.heap.size W v n F g V G := by
  rcases Nat.eq_zero_or_pos n with hn | hn
  · subst hn
    obtain ⟨ad, cap, rfl⟩ := own_shape h.ro
    exact ⟨0, ⟨⟨ad, cap, rfl, fun q => by omega⟩, fun q => by omega, fun j hj => by omega, fun q => by omega, h.ow, fun i hi => by omega, h.di⟩⟩
  · obtain ⟨g, cap, rfl, hBg, hlt⟩ := h.ro.form hn
    refine ⟨g, ⟨⟨_, _, rfl, fun _ => ⟨rfl, ?_⟩⟩, fun _ => ⟨hBg, hlt⟩, fun j hj t ht => ?_, fun _ j => h.ro.frozenAt j, h.ow, fun i hi hc => ?_, h.di⟩⟩
    · obtain ⟨g', cap', e, _, q, _⟩ := own_cells h.ro hn
      injection e with _ _ e3
      omega
    · have hjn : j * K + t < n * K := by
        have : (j + 1) * K ≤ n * K := Nat.mul_le_mul_right K hj
        rw [Nat.add_mul, Nat.one_mul] at this
        omega
      rw [h.ro.cellAt _ hjn]
      exact cel_at hK F V t ht n j hj
    · obtain ⟨q1, q2, q3⟩ := h.lo i hi hc
      exact ⟨q1, q2, fun e => q3 (by rw [e]; rfl)⟩
end Go.Proofs.Ytaggciimacanbaa.Fo
