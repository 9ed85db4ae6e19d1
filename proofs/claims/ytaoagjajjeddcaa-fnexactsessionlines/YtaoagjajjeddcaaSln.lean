import Derived.Test.YtaoagjajjeddcaaSlm
import Derived.Test.YtaoagjajjeddcaaEvq
namespace Go.Proofs.Ytaoagjajjeddcaa.Fo
open Go.ChangeShapes Go.WideShapes Go.ChangeAt Go.RowKit
set_option linter.unusedVariables false
set_option maxRecDepth 100000

theorem bytesLE : Try.prog.bytesOf 31 = 120 := by kernel_rfl
theorem rEvents : Try.prog.readableRec 39 = true ∧ 39 < Try.prog.types.size := ⟨by kernel_rfl, of_decide_eq_true (by kernel_rfl)⟩
theorem events_stays {H : Type} {enc : TypeId × Value → H} {W W' : World} {v : Value} {d : DataW H} {p : List MemPlace} (h : DataW.Trod enc Try.prog W 0 (fun _ => true) true 39 v d p) (hlt : ∀ x ∈ p, x.block < W.heap.size) (hg : Kb 0 W W') : DataW.Trod enc Try.prog W' 0 (fun b => decide (b < W.heap.size)) true 39 v d p := by
  obtain ⟨fuel, hf⟩ := h
  refine ⟨fuel, DataW.trod_stays (kids_book laidOut rEvents.1) (book_sized rEvents.1) (fun h => by cases h) ⟨rEvents.2, book_self 39⟩ hf (fun x hx => ?_) (fun x hx => by simpa using hlt x hx)⟩
  have hb := hlt x hx
  cases x with
  | cell b o => exact World.cell?_of_block (w := W) (hg.block b (Nat.zero_le _) hb)
  | map b => exact hg.block b (Nat.zero_le _) hb
theorem add_cell {b : Addr} {j : Nat} (h : 0 < j) : b.add j = ⟨b.block, b.off + j, none⟩ := by unfold Addr.add; rw [if_neg (by omega)]
instance : Inhabited Ev := ⟨⟨0, 0, 0, 0, 0, 0, ⟨#[]⟩, ⟨#[]⟩, ⟨#[]⟩, 0, fun _ => false⟩⟩
theorem read_evs {H : Type} {enc : TypeId × Value → H} {w : World} {base : Nat} {sp : Nat → Bool} {held : Bool} {fuel : Nat} {cs : List Value} {x : DataW H × List MemPlace} (h : DataW.trod enc Try.prog w base sp held fuel 39 cs = some x) (hz : Sz 39 x.1) :
    ∃ (v : Value) (n : Nat) (F : Nat → Ev), cs = [v] ∧ RowEv w v n F ∧ (n : Int) < 140737488355328 ∧ ∀ i, i < n → EvZ (F i) := by
  rcases Deep.open_slice Try.underlying39 h with ⟨rfl, rfl⟩ | ⟨a, len, cap, m, n, D, Pl, rfl, hb, hl, hm, hmm, rfl, hx⟩
  · exact ⟨_, 0, fun _ => default, rfl, ⟨none, 0, rfl, fun f => by omega⟩, by omega, fun i hi => by omega⟩
  · have hle : len ≤ m := by rw [hmm]; split <;> omega
    have hh := hz.head Try.underlying39
    rw [bytesLE] at hh
    simp only [List.length_map, List.length_range] at hh
    rw [cellsLE] at hx
    obtain ⟨F, hF⟩ := Deep.choose_lt (α := Ev) (n := len) (p := fun i g => (∃ pk ck, CelE w (a.add (i * 10)) g (.slice pk g.q ck) ∧ RowV w (.slice pk g.q ck) g.q (fun j => .bool (g.A j))) ∧ EvZ g) (fun i hi => by
      obtain ⟨cs', h1, h2⟩ := hx i (by omega)
      obtain ⟨_, hlen, hcell⟩ := World.cells?_some h1
      obtain ⟨op, n0, m0, k, f, l, x, y, z, pk, q, ck, A, hv, ra, s1, s2, s3, s4⟩ := read_event hlen h2 (hz.elem Try.underlying39 (List.mem_map.2 ⟨i, List.mem_range.2 hi, rfl⟩))
      subst hv
      refine ⟨⟨op, n0, m0, k, f, l, x, y, z, q, A⟩, ⟨pk, ck, ⟨?_, ?_, ?_, ?_, ?_, ?_, ?_, ?_, ?_, ?_⟩, ra⟩, s1, s2, s3, s4⟩
      · have := hcell 0 (by omega)
        simpa [Addr.add] using this
      · have := hcell 1 (by omega)
        rw [add_cell (by omega)] at this; simpa using this
      · have := hcell 2 (by omega)
        rw [add_cell (by omega)] at this; simpa using this
      · have := hcell 3 (by omega)
        rw [add_cell (by omega)] at this; simpa using this
      · have := hcell 4 (by omega)
        rw [add_cell (by omega)] at this; simpa using this
      · have := hcell 5 (by omega)
        rw [add_cell (by omega)] at this; simpa using this
      · have := hcell 6 (by omega)
        rw [add_cell (by omega)] at this; simpa using this
      · have := hcell 7 (by omega)
        rw [add_cell (by omega)] at this; simpa using this
      · have := hcell 8 (by omega)
        rw [add_cell (by omega)] at this; simpa using this
      · have := hcell 9 (by omega)
        rw [add_cell (by omega)] at this; simpa using this
      )
    exact ⟨_, len, F, rfl, ⟨some a, cap, rfl, fun _ => ⟨a, rfl, hl, fun i hi => (hF i hi).1⟩⟩, by omega, fun i hi => (hF i hi).2⟩
end Go.Proofs.Ytaoagjajjeddcaa.Fo
