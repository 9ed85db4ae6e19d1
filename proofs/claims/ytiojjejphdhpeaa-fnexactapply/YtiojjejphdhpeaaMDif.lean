import Derived.Test.YtiojjejphdhpeaaMDaj
namespace Go.Proofs.Ytiojjejphdhpeaa.Fo
open Go.ChangeShapes Go.WideShapes Go.ChangeAt Go.RowKit
set_option linter.unusedVariables false
set_option maxRecDepth 100000
theorem cells4 : Try.prog.cellsOf 4 = 1 := by kernel_rfl
theorem cellsLO : Try.prog.cellsOf 101 = 3 := by kernel_rfl
theorem bytesLO : Try.prog.bytesOf 101 = 40 := by kernel_rfl
theorem rOps : Try.prog.readableRec 61 = true ∧ 61 < Try.prog.types.size := ⟨by kernel_rfl, of_decide_eq_true (by kernel_rfl)⟩
theorem ops_stays {H : Type} {enc : TypeId × Value → H} {W W' : World} {v : Value} {d : DataW H} {p : List MemPlace} (h : DataW.Trod enc Try.prog W 0 (fun _ => true) true 61 v d p) (hlt : ∀ x ∈ p, x.block < W.heap.size) (hg : Kb 0 W W') : DataW.Trod enc Try.prog W' 0 (fun b => decide (b < W.heap.size)) true 61 v d p := by
  obtain ⟨fuel, hf⟩ := h
  refine ⟨fuel, DataW.trod_stays (kids_book laidOut rOps.1) (book_sized rOps.1) (fun h => by cases h) ⟨rOps.2, book_self 61⟩ hf (fun x hx => ?_) (fun x hx => by simpa using hlt x hx)⟩
  have hb := hlt x hx
  cases x with
  | cell b o => exact World.cell?_of_block (w := W) (hg.block b (Nat.zero_le _) hb)
  | map b => exact hg.block b (Nat.zero_le _) hb
section
variable {H : Type} {enc : TypeId × Value → H} {w : World} {base : Nat} {sp : Nat → Bool} {held : Bool}
theorem read_op {fuel : Nat} {cs : List Value} {x : DataW H × List MemPlace} {b : Addr} (h : DataW.trod enc Try.prog w base sp held fuel 101 cs = some x) (hc : w.cells? base b 3 = some cs) (hz : Sz 101 x.1) :
    ∃ g : Ed, ElC 3 0 w b g ∧ RdE g := by
  obtain ⟨_, hlen, hcell⟩ := World.cells?_some hc
  obtain ⟨xs, n, _, rfl, hl, hxl, hf⟩ := DataW.trod_struct Try.underlying101 h
  match cs, hlen with
  | [c0, c1, c2], _ =>
    match xs, hxl with
    | [y0, y1, y2], _ =>
      have t0 := hf 0 _ rfl
      have t1 := hf 1 _ rfl
      have t2 := hf 2 _ rfl
      simp [cells3, cells4, cellsBs] at t0 t1 t2
      have hzz : ∀ n ∈ y2.1.weights Try.prog 26, n ≤ 140737488351232 := by
        intro n hn
        refine hz n ?_
        simp [DataW.weights, Try.underlying101, DataW.weightsEach]
        exact Or.inr (Or.inr hn)
      obtain ⟨s0, e0, _⟩ := DataW.trod_bool Try.underlying4 t0
      obtain ⟨z0, e1, _⟩ := DataW.trod_int Try.underlying3 t1
      obtain ⟨v, c, A, e2, r1, s1, s2⟩ := read_byts t2 hzz
      simp only [List.cons.injEq, and_true] at e0 e1 e2
      subst e0 e1 e2
      refine ⟨⟨s0, z0, c, A⟩, ⟨_, ?_, fun t q0 q1 => ?_, r1.rowB⟩, s1, s2⟩
      · show w.cell? b = some (.bool s0)
        have := hcell 0 (by omega); simpa [Addr.add] using this
      · obtain rfl | rfl : t = 1 ∨ t = 2 := by omega
        · show w.cell? ⟨b.block, b.off + 1, none⟩ = some (.int .i64 z0)
          have := hcell 1 (by omega); simpa [Addr.add] using this
        · show w.cell? ⟨b.block, b.off + 2, none⟩ = some _
          have := hcell 2 (by omega); simpa [Addr.add] using this
theorem read_ops {fuel : Nat} {cs : List Value} {x : DataW H × List MemPlace} (h : DataW.trod enc Try.prog w base sp held fuel 61 cs = some x) (hz : Sz 61 x.1) :
    ∃ (v : Value) (n : Nat) (F : Nat → Ed), cs = [v] ∧ RowE 3 0 w v n F ∧ (n : Int) < 140737488355328 ∧ ∀ i, i < n → RdE (F i) := by
  rcases Deep.open_slice Try.underlying61 h with ⟨rfl, rfl⟩ | ⟨a, len, cap, m, n, D, Pl, rfl, hb, hl, hm, hmm, rfl, hx⟩
  · exact ⟨_, 0, fun _ => default, rfl, ⟨none, 0, rfl, fun f => by omega⟩, by omega, fun i hi => by omega⟩
  · have hle : len ≤ m := by rw [hmm]; split <;> omega
    have hh := hz.head Try.underlying61
    rw [bytesLO] at hh
    simp only [List.length_map, List.length_range] at hh
    rw [cellsLO] at hx
    obtain ⟨F, hF⟩ := Deep.choose_lt (α := Ed) (n := len) (p := fun i g => ElC 3 0 w (a.add (i * 3)) g ∧ RdE g) (fun i hi => by
      obtain ⟨cs', h1, h2⟩ := hx i (by omega)
      exact read_op h2 h1 (hz.elem Try.underlying61 (List.mem_map.2 ⟨i, List.mem_range.2 hi, rfl⟩)))
    exact ⟨_, len, F, rfl, ⟨some a, cap, rfl, fun _ => ⟨a, rfl, hl, Nat.zero_le _, fun i hi => (hF i hi).1⟩⟩, by omega, fun i hi => (hF i hi).2⟩
end
end Go.Proofs.Ytiojjejphdhpeaa.Fo
