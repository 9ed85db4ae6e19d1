import Derived.OrdersIn
import Derived.RangeFuncCalls
import Derived.OwnWalkIn
import Derived.TacticsInMore
import Derived.Test.YtaggciimacanbaaMDka
namespace Go.Proofs.Ytaggciimacanbaa.Fo
open Go.ChangeShapes Go.WideShapes Go.ChangeAt Go.RowKit
set_option linter.unusedVariables false
set_option maxRecDepth 100000
theorem own_none (W : World) (g : Nat) (A : Nat → Value) : OwnR W (.slice none 0 0) g 0 A := ⟨⟨none, 0, rfl, fun h => by omega⟩, fun i hi => by omega, fun h => by omega⟩
/-- three elements at once, of which the one between alone has bytes -/
theorem BE.step3 {K B : Nat} {ty : TypeId} {W W6 W8 : World} {v : Value} {n : Nat} {F : Nat → Ed} {V : Nat → Value} {G : Nat → Nat} {ob : Obj} {vx : Value} {gx g cap : Nat} (h : BE K B ty W v n F V G) (hB : B ≤ W.heap.size) (hs : W.heap.size ≤ W6.heap.size) (k6 : ∀ q, B ≤ q → q < W.heap.size → W6.heap[q]? = W.heap[q]?)
    (c0 : (F n).c = 0) (c2 : (F (n + 2)).c = 0) (ox : OwnR W6 vx gx (F (n + 1)).c (ub (F (n + 1)).A)) (lx : 0 < (F (n + 1)).c → W.heap.size ≤ gx ∧ gx < W6.heap.size)
    (h8 : W8.ownsRow B ty K (.slice (some ⟨g, 0, none⟩) (n + 3) cap) (n + 3) (cel K F V n ++ ((hdl K (F n) ++ [.slice none 0 0]) ++ ((hdl K (F (n + 1)) ++ [vx]) ++ (hdl K (F (n + 2)) ++ [.slice none 0 0]))))) (g8 : (W6.alloc ob).grownBy W8 v.ownBlock) (ha : v.ownBlock = some g ∨ g = W6.heap.size + 1) :
    BE K B ty W8 (.slice (some ⟨g, 0, none⟩) (n + 3) cap) (n + 3) F (fun q => if q < n then V q else if q = n + 1 then vx else .slice none 0 0) (fun q => if q = n + 1 then gx else G q) := by
  have h6 := h.keep hs k6
  have z8 : W6.heap.size + 1 ≤ W8.heap.size := by have := g8.size; rw [World.size_alloc] at this; exact this
  have b8 : ∀ q, q < W6.heap.size → some q ≠ v.ownBlock → W8.heap[q]? = W6.heap[q]? := fun q hq hn => (g8.block q (by rw [World.size_alloc]; omega) hn).trans ((kb_alloc 0 W6 ob).block q (Nat.zero_le _) hq)
  have nx : 0 < (F (n + 1)).c → some gx ≠ v.ownBlock := fun hc e => by
    have := (h.ro.lt gx e.symm).2
    have := (lx hc).1
    omega
  have ng : ∀ q, q < W6.heap.size → some q ≠ v.ownBlock → some q ≠ (Value.slice (some ⟨g, 0, none⟩) (n + 3) cap).ownBlock := fun q hq hn e => by
    have e' : q = g := by simpa [Value.ownBlock] using e
    rcases ha with a | a
    · exact hn (by rw [a, e'])
    · omega
  have cs : ∀ i, i < n + 3 → 0 < (F i).c → i < n ∨ i = n + 1 := fun i hi hc => by
    rcases Nat.lt_or_ge i n with q | q
    · exact .inl q
    · refine .inr ?_
      by_cases e : i = n
      · subst e; omega
      · by_cases e2 : i = n + 2
        · subst e2; omega
        · omega
  refine ⟨?_, fun i hi => ?_, fun i hi hc => ?_, fun i j hi hj hij hci hcj => ?_⟩
  · have e : cel K F (fun q => if q < n then V q else if q = n + 1 then vx else .slice none 0 0) (n + 3) = cel K F V n ++ ((hdl K (F n) ++ [.slice none 0 0]) ++ ((hdl K (F (n + 1)) ++ [vx]) ++ (hdl K (F (n + 2)) ++ [.slice none 0 0]))) := by
      rw [cel, cel, cel, cel_ext K F n (V' := V) (fun j hj => if_pos hj), if_neg (by omega), if_neg (by omega), if_neg (by omega), if_pos rfl, if_neg (by omega), if_neg (by omega)]
      simp only [List.append_assoc]
    rw [e]
    exact h8
  · rcases Nat.lt_or_ge i n with q | q
    · rw [if_pos q, if_neg (by omega)]
      refine (h6.ow i q).kb (fun hc => ?_)
      obtain ⟨q1, q2, q3⟩ := h6.lo i q (by omega)
      exact b8 _ q2 q3
    · rw [if_neg (by omega)]
      by_cases e : i = n + 1
      · subst e
        rw [if_pos rfl, if_pos rfl]
        exact ox.kb (fun hc => b8 _ (lx (by omega)).2 (nx (by omega)))
      · rw [if_neg e, if_neg e]
        have hc : (F i).c = 0 := by
          rcases Nat.eq_zero_or_pos (F i).c with z | z
          · exact z
          · rcases cs i hi z with x | x <;> omega
        rw [hc]
        exact own_none _ _ _
  · rcases cs i hi hc with q | q
    · rw [if_neg (by omega)]
      obtain ⟨q1, q2, q3⟩ := h6.lo i q hc
      exact ⟨q1, by omega, ng _ q2 q3⟩
    · subst q
      rw [if_pos rfl]
      have := lx hc
      exact ⟨by omega, by omega, ng _ (lx hc).2 (nx hc)⟩
  · rcases cs i hi hci with q | q <;> rcases cs j hj hcj with r | r
    · rw [if_neg (by omega), if_neg (by omega)]
      exact h.di i j q r hij hci hcj
    · subst r
      rw [if_neg (by omega), if_pos rfl]
      have := (h.lo i q hci).2.1
      have := lx hcj
      omega
    · subst q
      rw [if_pos rfl, if_neg (by omega)]
      have := (h.lo j r hcj).2.1
      have := lx hci
      omega
    · omega
end Go.Proofs.Ytaggciimacanbaa.Fo

namespace Go.Proofs.Ytaggciimacanbaa.Fo
open Go.ChangeShapes Go.WideShapes Go.ChangeAt Go.RowKit
set_option linter.unusedVariables false
set_option maxRecDepth 100000
section
variable {P : Program} {ops : Array Oper} {Q : Exit → Act → World → Prop} {md : Region.Mode}
/-- an operation that does not defer goes inside a round as it goes outside -/
theorem oper_in {o : Oper} {a : Act} {w : World} {K : Act → World → Prop} {l n : Nat} (hd : ∀ c, o.op ≠ .defer c) (h : o.wp P a w K Q) : o.wpIn (Fence.wide.inRound l) n P a w K Q := by
  refine ⟨fun f _ => trivial, ?_⟩
  rw [Oper.semAt_eq _ _ _ hd]
  unfold Oper.wp at h
  generalize hr : (execOp a.eval o).run P w = r at h
  unfold Oper.upon at h
  unfold Oper.uponIn
  split at h
  · exact h
  · exact h
  · exact h
  · exact ⟨fun q => by simp [Fence.wide, Fence.inRound] at q, callsIn_wide.2 h⟩
  · exact ⟨fun q => by simp [Fence.wide, Fence.inRound] at q, fun c cs _ => let ⟨v, w', r, s⟩ := h c cs; ⟨v, w', r, stepsIn_wide.2 s⟩⟩
  · exact h
  · exact h.elim
/-- so does a drawn region -/
theorem wpAny_in {l n : Nat} (hd : ∀ (i : Nat) (o : Oper), ops[i]? = some o → ∀ c, o.op ≠ .defer c) (hL : ¬ LetsOut Q) : ∀ (k : Nat) (listed : Array Bool) (a : Act) (w : World), wpAny P md ops Q k listed a w → wpAnyIn (Fence.wide.inRound l) n P md ops Q k listed a w
  | 0, _, _, _, h => h
  | k + 1, listed, a, w, h => ⟨h.1, fun i hi => by
      have g := h.2 i hi
      unfold wpOp at g
      unfold wpOpIn
      cases ho : ops[i]? with
      | none =>
        rw [ho] at g
        exact wpAny_in hd hL k _ _ _ g
      | some o =>
        rw [ho] at g
        simp only at g ⊢
        split at g
        · rename_i hw
          rw [if_pos hw]
          refine oper_in (hd i o ho) ?_
          rcases g with g | g
          · exact Oper.wp_mono (fun a' w' q => wpAny_in hd hL k _ a' w' q) g
          · exact absurd g.2 hL
        · rename_i hw
          rw [if_neg hw]
          exact ⟨fun f _ => trivial, wpAny_in hd hL k _ _ _ g⟩⟩
/-- a drawn region of a round's body, by AnyL -/
theorem AnyL.regionIn {S : World → Prop} {z id l n : Nat} {a : Act} {w : World} (hm : P.follows .mixedOrders = true) (hd : ops.all (fun o => match o.op with | .defer _ => false | _ => true) = true) (hL : ¬ LetsOut Q) (h : AnyL P .any ops Q S z ops.size (Array.replicate ops.size false) a w.drew) : (Code.region id ops true).wpIn (Fence.wide.inRound l) n P Q a w :=
  wpIn_region_any hm (wpAny_in (fun i o ho c e => by
    have hi : i < ops.size := by
      rcases Nat.lt_or_ge i ops.size with q | q
      · exact q
      · rw [Array.getElem?_eq_none q] at ho; cases ho
    have := (Array.all_eq_true.1 hd) i hi
    rw [Array.getElem?_eq_getElem hi] at ho
    injection ho with ho
    rw [ho, e] at this
    cases this) hL _ _ _ _ (AnyL.any _ _ _ _ h))
end
end Go.Proofs.Ytaggciimacanbaa.Fo
