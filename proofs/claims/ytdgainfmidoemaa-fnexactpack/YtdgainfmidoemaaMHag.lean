import Derived.Shelf.Strconv.Clone
import Derived.Test.YtdgainfmidoemaaMHaf
namespace Go.Proofs.Ytdgainfmidoemaa.Fo
open Go.ChangeShapes Go.WideShapes Go.ChangeAt Go.RowKit
set_option linter.unusedVariables false
set_option maxRecDepth 100000
open Go.Shelf
def renC : Go.Shelf.Ren := ⟨fun | 316 => 66 | n => n, fun | 9 => 9 | 3 => 3 | 4 => 4 | 37 => 36 | 0 => 0 | 127 => 118 | 5 => 5 | n => n, fun | n => n⟩
theorem laysC : Go.Proofs.LaysM.n316 Try.prog renC := {
  mixed := by kernel_rfl
  f316 := Try.func66.trans (congrArg some (by kernel_rfl))
  t0 := Try.underlying0
  a0 := Try.isAgg0
  z0 := Try.sizeOf0
  v0 := Try.zeroValue0
  t3 := Try.underlying3
  a3 := Try.isAgg3
  z3 := Try.sizeOf3
  v3 := Try.zeroValue3
  t4 := Try.underlying4
  a4 := Try.isAgg4
  z4 := Try.sizeOf4
  v4 := Try.zeroValue4
  t9 := Try.underlying9
  a9 := Try.isAgg9
  z9 := Try.sizeOf9
  v9 := Try.zeroValue9
  t37 := Try.underlying36
  a37 := Try.isAgg36
  z37 := Try.sizeOf36
  v37 := Try.zeroValue36
  t127 := Try.underlying118
  a127 := Try.isAgg118
  z127 := Try.sizeOf118
  v127 := Try.zeroValue118
  t5 := Try.underlying5
  a5 := Try.isAgg5
  z5 := Try.sizeOf5
  v5 := Try.zeroValue5
  i0 := by kernel_rfl
  i3 := by kernel_rfl
  i4 := by kernel_rfl
  i5 := by kernel_rfl
  i9 := by kernel_rfl
  i37 := by kernel_rfl
  i127 := by kernel_rfl }
open Go.RowKit in
theorem lite_clone (s : ByteArray) (w : World) (hlim : s.size ≤ 281474976710656) :
    Calls Try.prog 66 #[.string s] w fun e w' => e = .returned (.string s) ∧ Below w.heap.size w w' := Any.stringslite_Clone laysC s w hlim
theorem im_clone (s : ByteArray) (h : s.size ≤ 281474976710656) (w : World) : Calls Try.prog 44 #[.string s] w fun e w' => e = .returned (.string s) ∧ Below w.heap.size w w' := by
  have hc := lite_clone s w h
  clear h
  go_enter Try.func44, Try.ntmps44
  go_wp2_with fail
  refine hc.mono ?_
  rintro e w1 ⟨rfl, h1⟩
  clear hc
  go_wp2_with fail
  go_ret
  exact ⟨rfl, h1⟩
theorem arr_same {c : Array Value} {j : Nat} {v : Value} (h : c[j]? = some v) : c.setIfInBounds j v = c := by
  apply Array.ext_getElem?
  intro i
  rw [Array.getElem?_setIfInBounds]
  split
  · rename_i e
    subst e
    split
    · exact h.symm
    · rename_i q
      rw [Array.getElem?_eq_none (by omega)]
  · rfl
/-- a store of what is there changes nothing -/
theorem set_same {W : World} {b j : Nat} {c : Array Value} {t : TypeId} {v : Value} (h : W.heap[b]? = some (.cells c t (0, 0))) (hv : W.cell? ⟨b, j, none⟩ = some v) : Kb 0 W (W.setCell ⟨b, j, none⟩ v) := by
  have hc : c[j]? = some v := by
    cases e : c[j]? with
    | none => 
      have q : W.cell? ⟨b, j, none⟩ = c[j]? := by unfold World.cell?; simp [h]
      rw [q, e] at hv
      cases hv
    | some u =>
      have q := cell_of h e
      rw [hv] at q
      exact q.symm
  refine ⟨rfl, rfl, by rw [World.size_setCell]; exact Nat.le_refl _, fun g _ hg => ?_⟩
  by_cases e : g = b
  · subst e
    rw [set_known v h, arr_same hc, h]
  · exact Below.heap_setCell _ _ _ _ e
end Go.Proofs.Ytdgainfmidoemaa.Fo
