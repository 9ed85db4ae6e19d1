import Derived.Test.YtiojjejphdhpeaaMDaj
namespace Go.Proofs.Ytiojjejphdhpeaa.Fo
open Go.ChangeShapes Go.WideShapes Go.ChangeAt Go.RowKit
set_option linter.unusedVariables false
set_option maxRecDepth 100000
def boolOf : Value → Bool
  | .bool b => b
  | _ => false
theorem cellsBo : Try.prog.cellsOf 4 = 1 := by kernel_rfl
theorem bytesBo : Try.prog.bytesOf 4 = 1 := by kernel_rfl
theorem rBos : Try.prog.readableRec 39 = true ∧ 39 < Try.prog.types.size := ⟨by kernel_rfl, of_decide_eq_true (by kernel_rfl)⟩
theorem bools_stays {H : Type} {enc : TypeId × Value → H} {W W' : World} {v : Value} {d : DataW H} {p : List MemPlace} (h : DataW.Trod enc Try.prog W 0 (fun _ => true) true 39 v d p) (hlt : ∀ x ∈ p, x.block < W.heap.size) (hg : Kb 0 W W') : DataW.Trod enc Try.prog W' 0 (fun b => decide (b < W.heap.size)) true 39 v d p := by
  obtain ⟨fuel, hf⟩ := h
  refine ⟨fuel, DataW.trod_stays (kids_book laidOut rBos.1) (book_sized rBos.1) (fun h => by cases h) ⟨rBos.2, book_self 39⟩ hf (fun x hx => ?_) (fun x hx => by simpa using hlt x hx)⟩
  have hb := hlt x hx
  cases x with
  | cell b o => exact World.cell?_of_block (w := W) (hg.block b (Nat.zero_le _) hb)
  | map b => exact hg.block b (Nat.zero_le _) hb
theorem read_bools {H : Type} {enc : TypeId × Value → H} {w : World} {base : Nat} {sp : Nat → Bool} {held : Bool} {fuel : Nat} {cs : List Value} {x : DataW H × List MemPlace} (h : DataW.trod enc Try.prog w base sp held fuel 39 cs = some x) (hz : Sz 39 x.1) :
    ∃ (v : Value) (n : Nat) (A : Nat → Bool), cs = [v] ∧ RowV w v n (fun i => .bool (A i)) ∧ (n : Int) < 140737488355328 := by
  rcases Deep.open_slice1 Try.underlying39 cellsBo h with ⟨rfl, rfl⟩ | ⟨a, len, cap, m, n, V, D, Pl, rfl, hb, hl, hm, hmm, rfl, hx⟩
  · exact ⟨.slice none 0 0, 0, fun _ => false, rfl, ⟨none, 0, rfl, fun f => by omega⟩, by omega⟩
  · have hle : len ≤ m := by rw [hmm]; split <;> omega
    have hh := hz.head Try.underlying39
    rw [bytesBo] at hh
    simp only [List.length_map, List.length_range] at hh
    have key : ∀ i, i < len → w.cell? (a.add i) = some (.bool (boolOf (V i))) := fun i hi => by
      obtain ⟨h1, h2⟩ := hx i (by omega)
      obtain ⟨z, e1, _⟩ := DataW.trod_bool Try.underlying4 h2
      simp only [List.cons.injEq, and_true] at e1
      rw [h1]
      show some (V i) = some (.bool (boolOf (V i)))
      rw [e1]; rfl
    exact ⟨_, len, fun i => boolOf (V i), rfl, ⟨some a, cap, rfl, fun _ => ⟨a, rfl, hl, fun i hi => key i hi⟩⟩, by omega⟩
end Go.Proofs.Ytiojjejphdhpeaa.Fo
