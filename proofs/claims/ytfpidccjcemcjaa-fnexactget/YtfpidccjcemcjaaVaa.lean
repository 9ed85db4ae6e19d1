import Derived.Test.YtfpidccjcemcjaaFloorW
import Derived.Laws.StructEq
namespace Go.Proofs.Ytfpidccjcemcjaa
open Go.ChangeShapes Go.WideShapes Go.ChangeAt Go.RowKit
set_option linter.unusedVariables false
set_option maxRecDepth 100000
noncomputable def dc (p : Prop) : Bool := @decide p (Classical.propDecidable p)
theorem dc_t {p : Prop} (h : p) : dc p = true := @decide_eq_true p (Classical.propDecidable p) h
theorem dc_f {p : Prop} (h : ¬ p) : dc p = false := @decide_eq_false p (Classical.propDecidable p) h
/-- a value's fields -/
structure Vv where
  k : Int
  m : Int
  g : Nat
  x : ByteArray
  r : Int
def vv (v : Vv) : Value := .agg #[.int .i64 v.k, .int .i64 v.m, .float .f64 v.g, .string v.x, .int .i64 v.r]
/-- a float is a zero -/
def fz (g : Nat) : Prop := FloatKind.f64.format.order g 0 = some .eq
/-- the fields beside those that are let be are 0 -/
def zr (v : Vv) (b1 b2 b3 b4 : Bool) : Prop := (b1 = true ∨ v.m = 0) ∧ (b2 = true ∨ fz v.g) ∧ (b3 = true ∨ v.x.toList = []) ∧ (b4 = true ∨ v.r = 0)
theorem run_equalIn_flt (d : Nat) (a b : Nat) (w : World) : (Op.equalIn (d + 1) 22 (.float .f64 a) (.float .f64 b)).run Try.prog w = .ok (FloatKind.f64.format.order a b == some .eq) w := by
  simp [Op.equalIn, run_underlying Try.underlying22, Op.floatEq]
/-- blocks that were there are kept -/
theorem grown_block {a w : World} (h : Grown a w) {i : Nat} (hi : i < a.heap.size) : w.heap[i]? = a.heap[i]? := by
  have h := h.1.2.2 i hi
  generalize a.heap[i]? = o at h ⊢
  generalize w.heap[i]? = o' at h ⊢
  split at h
  · obtain ⟨rfl, rfl, g1, g2⟩ := h
    congr 2
    apply Array.ext
    · exact g1
    · intro j l1 l2
      have := g2 j (fun f => f)
      rw [Array.getElem?_eq_getElem l1, Array.getElem?_eq_getElem l2] at this
      exact Option.some.inj this
  · rcases h with h | ⟨rfl, rfl⟩
    · exact h.elim
    · rfl
  · exact h
/-- the five cells of a value in block B -/
structure Vc (w : World) (B : Nat) (v : Vv) : Prop where
  c0 : w.cell? ⟨B, 0, none⟩ = some (.int .i64 v.k)
  c1 : w.cell? ⟨B, 1, none⟩ = some (.int .i64 v.m)
  c2 : w.cell? ⟨B, 2, none⟩ = some (.float .f64 v.g)
  c3 : w.cell? ⟨B, 3, none⟩ = some (.string v.x)
  c4 : w.cell? ⟨B, 4, none⟩ = some (.int .i64 v.r)
theorem Vc.new (w : World) (k m : Int) (g : Nat) (x : ByteArray) (r : Int) (t : TypeId) : Vc (w.alloc (.cells #[.int .i64 k, .int .i64 m, .float .f64 g, .string x, .int .i64 r] t)) w.heap.size ⟨k, m, g, x, r⟩ := by
  constructor <;> (rw [World.cell?_alloc_at _ _ _ _ rfl]; rfl)
theorem Vc.grown {a w : World} {B : Nat} {v : Vv} (h : Vc a B v) (g : Grown a w) : Vc w B v := by
  have hl : B < a.heap.size := by
    have := h.c0
    unfold World.cell? at this
    cases hh : a.heap[B]? with
    | none => simp [hh] at this
    | some o => exact (Array.getElem?_eq_some_iff.1 hh).1
  have e : ∀ j, w.cell? ⟨B, j, none⟩ = a.cell? ⟨B, j, none⟩ := fun j => World.cell?_of_block (grown_block g hl)
  exact ⟨(e _).trans h.c0, (e _).trans h.c1, (e _).trans h.c2, (e _).trans h.c3, (e _).trans h.c4⟩
end Go.Proofs.Ytfpidccjcemcjaa
