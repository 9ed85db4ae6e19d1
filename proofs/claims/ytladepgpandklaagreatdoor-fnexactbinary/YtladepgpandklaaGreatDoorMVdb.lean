import Derived.Test.YtladepgpandklaaGreatDoorMFlz
import Derived.Test.YtladepgpandklaaGreatDoorMVam
namespace Go.Proofs.YtladepgpandklaaGreatDoor
open Go.ChangeShapes Go.WideShapes Go.ChangeAt Go.RowKit
set_option linter.unusedVariables false
set_option maxRecDepth 100000
noncomputable def afr (op : BinOp) (x y : Nat) (w : World) : Nat := match floatBits op .f64 x y with
  | some r => r
  | none => (Question.nanBits .f64 x y).cut (w.tape w.drawn (.nanBits .f64 x y))
noncomputable def afw (op : BinOp) (x y : Nat) (w : World) : World := match floatBits op .f64 x y with
  | some _ => w
  | none => w.drew
theorem arith_run {op : BinOp} (ho : op = .add ∨ op = .sub ∨ op = .mul ∨ op = .quo) (x y : Nat) (w : World) : (binOp op 22 (.float .f64 x) (.float .f64 y)).run Tryz.prog w = .ok (.float .f64 (afr op x y w)) (afw op x y w) := by
  unfold afr afw
  cases h : floatBits op .f64 x y with
  | some r => exact run_float_arith w op 22 .f64 x y r h
  | none =>
    have hf : (Question.nanBits .f64 x y).forced = false := rfl
    rcases ho with rfl | rfl | rfl | rfl
    all_goals
      unfold floatBits at h
      simp only at h
      simp [binOp, Op.floatArith, h, hf]
theorem afw_grown (op : BinOp) (x y : Nat) (w : World) : Grown w (afw op x y w) := by
  unfold afw
  split
  · exact Grown.refl _
  · exact Grown.drew (Grown.refl _)
theorem afw_size (op : BinOp) (x y : Nat) (w : World) : (afw op x y w).heap.size = w.heap.size := by
  unfold afw
  split <;> rfl
/-- a result that is a number, or any NaN -/
def OR (o : Option Nat) (g : Nat) : Prop := g < 18446744073709551616 ∧ match o with
  | some r => g = r ∧ FloatKind.f64.format.order r r = some .eq
  | none => fnan g
theorem or_afr (op : BinOp) (x y : Nat) (w : World) : OR (floatBits op .f64 x y) (afr op x y w) := by
  unfold OR afr
  cases h : floatBits op .f64 x y with
  | some r => exact ⟨(arith_num h).2, rfl, (arith_num h).1⟩
  | none => exact ⟨(cut_nan x y _).2, (cut_nan x y _).1⟩
theorem floor_num' {r : Nat} (hr : r < 18446744073709551616) (h : FloatKind.f64.format.order r r = some .eq) : FloatKind.f64.format.order (Flt.floorW r) (Flt.floorW r) = some .eq := by
  unfold Flt.floorW
  refine write_num _ ?_
  have h' : Ieee.Datum.order (Ieee.double.read r) (Ieee.double.read r) = some .eq := h
  cases hd : Ieee.double.read r with
  | nan s t => rw [hd] at h'; simp [Ieee.Datum.order] at h'
  | infinity s => rfl
  | number s m i => rfl
theorem arch_floor_nan2 (x : Nat) (hx : x < 18446744073709551616) (w : World) (hn : FloatKind.f64.format.order x x = none) :
    ∃ y w', (callFunc 79 #[.float .f64 x]).run Tryz.prog w = .ok (.value (.float .f64 y)) w' ∧ FloatKind.f64.format.order y y = none ∧ (w' = w ∨ w' = w.drew) ∧ y < 18446744073709551616 := by
  rw [run_callFunc_extern (e := Extern.MathFloor.toIntegral "math.archFloor" .down) Tryz.func79 (by kernel_rfl) (by kernel_rfl) (by kernel_rfl) (by kernel_rfl)]
  obtain ⟨q, hq⟩ := entry "math.archFloor" .down x
  rw [hq]
  generalize hd : FloatKind.f64.decode x = d
  have hn2 : d.order d = none := by rw [← hd]; exact hn
  cases d with
  | nan s t =>
    by_cases hq : FloatKind.f64.format.quiet t = t
    · simp only [hq, if_true]
      exact ⟨x, w, by simp, hn, Or.inl rfl, hx⟩
    · simp only [hq, if_false, Sem.run_bind, run_choose_drew]
      by_cases hf : q.forced = true
      · simp only [hf, if_true, Result.andThen]
        exact ⟨_, _, by simp; rfl, Flt.quiet_nan s t, Or.inl rfl, Ieee.double.write_lt _⟩
      · have hf2 : q.forced = false := by simpa using hf
        simp only [hf2, Bool.false_eq_true, if_false, Result.andThen]
        refine ⟨_, _, by simp only [Sem.run_pure]; rfl, ?_, Or.inr rfl, ?_⟩
        · split
          · exact hn
          · exact Flt.quiet_nan s t
        · split
          · exact hx
          · exact Ieee.double.write_lt _
  | infinity s => simp [Ieee.Datum.order] at hn2
  | number s m k => simp [Ieee.Datum.order] at hn2
theorem math_floor_nan2 (x : Nat) (hx : x < 18446744073709551616) (w : World) (hn : FloatKind.f64.format.order x x = none) :
    Calls Tryz.prog 67 #[.float .f64 x] w fun e w' => ∃ y, e = .returned (.float .f64 y) ∧ FloatKind.f64.format.order y y = none ∧ y < 18446744073709551616 ∧ Grown w w' := by
  obtain ⟨y, w1, h1, h2, h3, h4⟩ := arch_floor_nan2 x hx w hn
  go_enter Tryz.func67, Tryz.ntmps67
  go_wp2
  go_ret
  refine ⟨_, rfl, h2, h4, ?_⟩
  rcases h3 with rfl | rfl
  · exact Grown.refl _
  · exact Grown.drew (Grown.refl _)
/-- the program's Floor -/
theorem im_floor_or (o : Option Nat) (g : Nat) (h : OR o g) (w : World) : Calls Tryz.prog 54 #[.float .f64 g] w fun e w' => ∃ y, e = .returned (.float .f64 y) ∧ OR (o.map Flt.floorW) y ∧ Grown w w' := by
  obtain ⟨hl, ho⟩ := h
  cases o with
  | some r =>
    obtain ⟨rfl, hn⟩ := ho
    go_enter Tryz.func54, Tryz.ntmps54
    go_wp2_with (go_at_call 67; refine (math_floor g _ hn).mono ?_; rintro e w' ⟨rfl, rfl⟩)
    go_ret
    exact ⟨_, rfl, ⟨Flt.floor_lt g, rfl, floor_num' hl hn⟩, by go_grown⟩
  | none =>
    go_enter Tryz.func54, Tryz.ntmps54
    go_wp2_with (go_at_call 67; refine (math_floor_nan2 g hl _ ho).mono ?_; rintro e w' ⟨y, rfl, hy, hl2, hg⟩)
    go_ret
    exact ⟨_, rfl, ⟨hl2, hy⟩, hg⟩
/-- the model's -/
theorem sp_floor_or (o : Option Nat) (g : Nat) (h : OR o g) (w : World) : Calls Tryz.prog 44 #[.float .f64 g] w fun e w' => ∃ y, e = .returned (.float .f64 y) ∧ OR (o.map Flt.floorW) y ∧ Grown w w' := by
  obtain ⟨hl, ho⟩ := h
  cases o with
  | some r =>
    obtain ⟨rfl, hn⟩ := ho
    refine (spec_floor g hl w hn).mono ?_
    rintro e w' ⟨rfl, rfl⟩
    exact ⟨_, rfl, ⟨Flt.floor_lt g, rfl, floor_num' hl hn⟩, Grown.refl _⟩
  | none =>
    refine (spec_floor_nan g w ho).mono ?_
    rintro e w' ⟨rfl, rfl⟩
    exact ⟨_, rfl, ⟨hl, ho⟩, Grown.refl _⟩
end Go.Proofs.YtladepgpandklaaGreatDoor
namespace Go.Proofs.YtladepgpandklaaGreatDoor
open Go.ChangeShapes Go.WideShapes Go.ChangeAt Go.RowKit
set_option linter.unusedVariables false
set_option maxRecDepth 100000
theorem or_mul {o : Option Nat} {q : Nat} (y : Nat) (w : World) (h : OR (o.map Flt.floorW) q) : OR (o.bind fun r => floatBits .mul .f64 (Flt.floorW r) y) (afr .mul q y w) := by
  cases o with
  | some r =>
    obtain ⟨_, rfl, _⟩ := h
    exact or_afr .mul _ y w
  | none =>
    have := or_afr .mul q y w
    rw [nan_mul h.2] at this
    exact this
theorem or_sub {o : Option Nat} {p : Nat} (x : Nat) (w : World) (h : OR o p) : OR (o.bind fun p => floatBits .sub .f64 x p) (afr .sub x p w) := by
  cases o with
  | some r =>
    obtain ⟨_, rfl, _⟩ := h
    exact or_afr .sub x _ w
  | none =>
    have := or_afr .sub x p w
    rw [nan_sub h.2] at this
    exact this
/-- what an operation of two floats gives -/
def fo (op : Int) (x y : Nat) : Option Nat :=
  if op = 1 then floatBits .add .f64 x y else if op = 2 then floatBits .sub .f64 x y else if op = 3 then floatBits .mul .f64 x y else if op = 4 then floatBits .quo .f64 x y
  else if op = 5 then (floatBits .quo .f64 x y).map Flt.floorW else (((floatBits .quo .f64 x y).bind fun r => floatBits .mul .f64 (Flt.floorW r) y)).bind fun p => floatBits .sub .f64 x p
end Go.Proofs.YtladepgpandklaaGreatDoor
