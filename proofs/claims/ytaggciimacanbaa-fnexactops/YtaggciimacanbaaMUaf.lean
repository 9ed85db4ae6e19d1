import Derived.Laws.BytesString
import Derived.Test.YtaggciimacanbaaMUae
import Derived.Test.YtaggciimacanbaaMReg
namespace Go.Proofs.Ytaggciimacanbaa.Fo
open Go.ChangeShapes Go.WideShapes Go.ChangeAt Go.RowKit
set_option linter.unusedVariables false
set_option maxRecDepth 100000
theorem RD.kg {b : Nat} {a : Addr} {c : Nat} {M : List UInt8} {k k' : Nat} {bad bad' : Bool} {W w' : World} (h : RD b a c M k bad W) (z : Kg b W w') (ha : a.block < W.heap.size ∨ M = []) (hb : w'.heap[b]? = some (.cells #[.slice (some a) M.length c, .int .i64 (k' : Int), .bool bad'] 117 (0, 0))) (hk : k' ≤ 8200) : RD b a c M k' bad' w' :=
  ⟨hb, hk, h.sz, h.cap, h.ne, fun i x hx => by
    rcases ha with q | q
    · exact (World.cell?_of_block (by rw [add_block]; exact z.block _ q h.ne)).trans (h.row i x hx)
    · rw [q] at hx; simp at hx⟩
theorem RD.far {b g : Nat} {a : Addr} {c : Nat} {M : List UInt8} {k : Nat} {bad : Bool} {W w' : World} (h : RD b a c M k bad W) (hf : ∀ q, q ≠ g → w'.heap[q]? = W.heap[q]?) (hg : g ≠ b) (hga : M = [] ∨ g ≠ a.block) : RD b a c M k bad w' :=
  ⟨(hf b (fun e => hg e.symm)).trans h.blk, h.le, h.sz, h.cap, h.ne, fun i x hx => by
    rcases hga with q | q
    · rw [q] at hx; simp at hx
    · exact (World.cell?_of_block (by rw [add_block]; exact hf _ (fun e => q e.symm))).trans (h.row i x hx)⟩
theorem add_add2 (a : Addr) (i j : Nat) : (a.add i).add j = a.add (i + j) := by
  unfold Addr.add
  by_cases hi : i = 0 <;> by_cases hj : j = 0 <;> simp [hi, hj, Nat.add_assoc]
theorem Wv.x3 {y : Gv} (hy : Wv y) (h3 : y.k = 3) : y.x.size ≤ 5000 ∧ y.m = 0 ∧ y.r = 0 := by
  rcases hy.ok with q | q | q | q
  · have := q.1; omega
  · rcases q.1 with q | q <;> omega
  · exact ⟨by have := q.2.2.2; omega, q.2.1, q.2.2.1⟩
  · have := q.1; omega
theorem v8_3 {y : Gv} (h3 : y.k = 3) : v8 y = [3] ++ vb y.x.size ++ y.x.data.toList := by unfold v8; rw [if_neg (by omega), if_neg (by omega), if_pos h3]
theorem wr64_rg (s : Int) : -9223372036854775808 ≤ wrap64 s ∧ wrap64 s ≤ 9223372036854775807 := by unfold wrap64; omega
theorem RD.lt {b : Nat} {a : Addr} {c : Nat} {M : List UInt8} {k : Nat} {bad : Bool} {W : World} (h : RD b a c M k bad W) : M = [] ∨ a.block < W.heap.size := by
  cases hM : M with
  | nil => exact .inl rfl
  | cons x r =>
    have q := h.row 0 x (by rw [hM]; rfl)
    have e0 : a.add 0 = a := by unfold Addr.add; rw [if_pos rfl]
    rw [e0] at q
    exact .inr (by
      unfold World.cell? at q
      cases e : W.heap[a.block]? with
      | none => simp [e] at q
      | some o => exact (Array.getElem?_eq_some_iff.1 e).1)
end Go.Proofs.Ytaggciimacanbaa.Fo
