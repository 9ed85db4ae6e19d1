import Derived.Test.YtamcnmnaadpfoaaMUad
import Derived.Test.YtamcnmnaadpfoaaMGcp
namespace Go.Proofs.Ytamcnmnaadpfoaa.Fo
open Go.ChangeShapes Go.WideShapes Go.ChangeAt Go.RowKit
set_option linter.unusedVariables false
set_option maxRecDepth 100000
/-- of the old blocks only b is written -/
structure Kg (b : Nat) (W w' : World) : Prop where
  os : w'.os = W.os
  output : w'.output = W.output
  size : W.heap.size ≤ w'.heap.size
  block : ∀ k, k < W.heap.size → k ≠ b → w'.heap[k]? = W.heap[k]?
theorem Kz.kg {b : Nat} {W w' : World} (h : Kz b W w') : Kg b W w' := ⟨h.os, h.output, Nat.le_of_eq h.size.symm, fun k _ hk => h.block k hk⟩
theorem Kg.trans {b : Nat} {W w1 w2 : World} (h : Kg b W w1) (k : Kg b w1 w2) : Kg b W w2 := ⟨k.os.trans h.os, k.output.trans h.output, Nat.le_trans h.size k.size, fun i h1 h2 => (k.block i (Nat.lt_of_lt_of_le h1 h.size) h2).trans (h.block i h1 h2)⟩
theorem Kg.of_kb {b : Nat} {W w' : World} (h : Kb 0 W w') : Kg b W w' := ⟨h.os, h.output, h.size, fun k hk _ => h.block k (Nat.zero_le _) hk⟩
theorem RD.kb {b : Nat} {a : Addr} {c : Nat} {M : List UInt8} {k : Nat} {bad : Bool} {W w' : World} (h : RD b a c M k bad W) (z : Kb 0 W w') : RD b a c M k bad w' :=
  ⟨(z.block b (Nat.zero_le _) (Array.getElem?_eq_some_iff.1 h.blk).1).trans h.blk, h.le, h.sz, h.cap, h.ne, fun i x hx => z.cellA (Nat.zero_le _) (h.row i x hx)⟩
/-- the bytes of a value -/
def v8 (v : Gv) : List UInt8 := if v.k = 1 then [1] ++ vb (sgn v.m) else if v.k = 2 then [2] ++ e8 (v.m % 18446744073709551616).toNat 8 else if v.k = 3 then [3] ++ vb v.x.size ++ v.x.data.toList else if v.k = 4 then [4] ++ vb v.r.toNat else [0]
theorem toI_v8 (v : Gv) : toI (v8 v) = pvl v := by
  unfold v8 pvl
  split
  · rw [toI_app, toI_vb]; rfl
  · split
    · rw [toI_app, toI_e8]; rfl
    · split
      · rw [toI_app, toI_app, toI_vb]; rfl
      · split
        · rw [toI_app, toI_vb]; rfl
        · rfl
/-- a value that can be written, and read again -/
structure Wv (y : Gv) : Prop where
  ok : Vok 5001 y
  m0 : -9223372036854775808 ≤ y.m
  m1 : y.m ≤ 9223372036854775807
/-- what is known of a value that was read -/
structure Rv (g : Gv) : Prop where
  m0 : -9223372036854775808 ≤ g.m
  m1 : g.m ≤ 9223372036854775807
  x : g.x.size ≤ 8192
def usg (n : Nat) : Int := if n % 2 = 1 then -(n / 2 : Nat) - 1 else (n / 2 : Nat)
theorem usg_sgn (y : Int) : usg (sgn y) = y := by
  unfold usg sgn
  by_cases h : y < 0
  · rw [if_pos h, if_pos (by omega)]; omega
  · rw [if_neg h, if_neg (by omega)]; omega
theorem usg_rg {n : Nat} (h : n < 18446744073709551616) : -9223372036854775808 ≤ usg n ∧ usg n ≤ 9223372036854775807 := by
  unfold usg
  split <;> omega
/-- what a read value leaves behind -/
def RV8 (b : Nat) (a : Addr) (c : Nat) (M : List UInt8) (k : Nat) (bad : Bool) (W : World) (e : Ending) (w' : World) : Prop := ∃ (g : Gv) (k' : Nat) (bad' : Bool), e = .returned (.agg #[.int .i64 g.k, .int .i64 g.m, .string g.x, .int .i64 g.r]) ∧ RD b a c M k' bad' w' ∧ k ≤ k' ∧ Kg b W w' ∧ Rv g ∧ (k' = k ∨ bad = true → bad' = true) ∧ ∀ (y : Gv) rest, Wv y → M.drop k = v8 y ++ rest → g = y ∧ k' = k + (v8 y).length ∧ bad' = bad
theorem v8_head (y : Gv) (hy : Wv y) : ∃ t, v8 y = UInt8.ofNat y.k.toNat :: t ∧ (0 ≤ y.k ∧ y.k ≤ 4) := by
  have hk : y.k = 0 ∨ y.k = 1 ∨ y.k = 2 ∨ y.k = 3 ∨ y.k = 4 := by
    rcases hy.ok with h | h | h | h
    · exact .inl h.1
    · rcases h.1 with q | q
      · exact .inr (.inl q)
      · exact .inr (.inr (.inl q))
    · exact .inr (.inr (.inr (.inl h.1)))
    · exact .inr (.inr (.inr (.inr h.1)))
  rcases hk with e | e | e | e | e <;> exact ⟨(v8 y).tail, by unfold v8; rw [e]; rfl, by omega⟩
end Go.Proofs.Ytamcnmnaadpfoaa.Fo
