import Derived.Test.YtaggciimacanbaaMSuc
import Derived.Test.YtaggciimacanbaaMDaf
namespace Go.Proofs.Ytaggciimacanbaa.Fo
open Go.ChangeShapes Go.WideShapes Go.ChangeAt Go.RowKit
set_option linter.unusedVariables false
set_option maxRecDepth 100000
theorem cells3 : Try.prog.cellsOf 3 = 1 := by kernel_rfl
theorem cellsBs : Try.prog.cellsOf 26 = 1 := by kernel_rfl
theorem bytesBs : Try.prog.bytesOf 26 = 24 := by kernel_rfl
theorem cellsBss : Try.prog.cellsOf 22 = 1 := by kernel_rfl
theorem cellsLW : Try.prog.cellsOf 108 = 2 := by kernel_rfl
theorem bytesLW : Try.prog.bytesOf 108 = 32 := by kernel_rfl
theorem cellsLWs : Try.prog.cellsOf 23 = 1 := by kernel_rfl
theorem cellsLD : Try.prog.cellsOf 25 = 2 := by kernel_rfl
/-- what is known of an element that was read -/
def RdE (e : Ed) : Prop := (e.c : Int) < 140737488355328 ∧ ∀ j, j < e.c → 0 ≤ e.A j ∧ e.A j ≤ 255
section
variable {H : Type} {enc : TypeId × Value → H} {w : World} {base : Nat} {sp : Nat → Bool} {held : Bool}
theorem read_blocks {fuel : Nat} {cs : List Value} {x : DataW H × List MemPlace} (h : DataW.trod enc Try.prog w base sp held fuel 22 cs = some x) (hz : Sz 22 x.1) :
    ∃ (v : Value) (n : Nat) (F : Nat → Ed), cs = [v] ∧ RowE 1 0 w v n F ∧ (n : Int) < 140737488355328 ∧ ∀ i, i < n → RdE (F i) := by
  rcases Deep.open_slice1 Try.underlying22 cellsBs h with ⟨rfl, rfl⟩ | ⟨a, len, cap, m, n, V, D, Pl, rfl, hb, hl, hm, hmm, rfl, hx⟩
  · exact ⟨.slice none 0 0, 0, fun _ => default, rfl, ⟨none, 0, rfl, fun f => by omega⟩, by omega, fun i hi => by omega⟩
  · have hle : len ≤ m := by rw [hmm]; split <;> omega
    have hh := hz.head Try.underlying22
    rw [bytesBs] at hh
    simp only [List.length_map, List.length_range] at hh
    obtain ⟨F, hF⟩ := Deep.choose_lt (α := Ed) (n := len) (p := fun i g => ElC 1 0 w (a.add (i * 1)) g ∧ RdE g) (fun i hi => by
      obtain ⟨h1, h2⟩ := hx i (by omega)
      obtain ⟨v, c, A, e1, r1, s1, s2⟩ := read_byts h2 (hz.elem Try.underlying22 (List.mem_map.2 ⟨i, List.mem_range.2 (by omega), rfl⟩))
      simp only [List.cons.injEq, and_true] at e1
      refine ⟨⟨false, 0, c, A⟩, ⟨v, ?_, fun t t0 t1 => by omega, r1.rowB⟩, s1, s2⟩
      rw [Nat.mul_one, h1, e1]
      rfl)
    exact ⟨_, len, F, rfl, ⟨some a, cap, rfl, fun _ => ⟨a, rfl, hl, Nat.zero_le _, fun i hi => (hF i hi).1⟩⟩, by omega, fun i hi => (hF i hi).2⟩
theorem read_write {fuel : Nat} {cs : List Value} {x : DataW H × List MemPlace} {b : Addr} (h : DataW.trod enc Try.prog w base sp held fuel 108 cs = some x) (hc : w.cells? base b 2 = some cs) (hz : Sz 108 x.1) :
    ∃ g : Ed, ElC 2 0 w b g ∧ RdE g := by
  obtain ⟨_, hlen, hcell⟩ := World.cells?_some hc
  obtain ⟨xs, n, _, rfl, hl, hxl, hf⟩ := DataW.trod_struct Try.underlying108 h
  match cs, hlen with
  | [c0, c1], _ =>
    match xs, hxl with
    | [y0, y1], _ =>
      have t0 := hf 0 _ rfl
      have t1 := hf 1 _ rfl
      simp [cells3, cellsBs] at t0 t1
      have hzz : ∀ n ∈ y1.1.weights Try.prog 26, n ≤ 140737488351232 := by
        intro n hn
        refine hz n ?_
        simp [DataW.weights, Try.underlying108, DataW.weightsEach]
        exact Or.inr hn
      obtain ⟨z0, e0, _⟩ := DataW.trod_int Try.underlying3 t0
      obtain ⟨v, c, A, e1, r1, s1, s2⟩ := read_byts t1 hzz
      simp only [List.cons.injEq, and_true] at e0 e1
      subst e0 e1
      refine ⟨⟨false, z0, c, A⟩, ⟨_, ?_, fun t q0 q1 => ?_, r1.rowB⟩, s1, s2⟩
      · show w.cell? b = some (.int .i64 z0)
        have := hcell 0 (by omega); simpa [Addr.add] using this
      · obtain rfl : t = 1 := by omega
        show w.cell? ⟨b.block, b.off + 1, none⟩ = some _
        have := hcell 1 (by omega); simpa [Addr.add] using this
theorem read_writes {fuel : Nat} {cs : List Value} {x : DataW H × List MemPlace} (h : DataW.trod enc Try.prog w base sp held fuel 23 cs = some x) (hz : Sz 23 x.1) :
    ∃ (v : Value) (n : Nat) (F : Nat → Ed), cs = [v] ∧ RowE 2 0 w v n F ∧ (n : Int) < 140737488355328 ∧ ∀ i, i < n → RdE (F i) := by
  rcases Deep.open_slice Try.underlying23 h with ⟨rfl, rfl⟩ | ⟨a, len, cap, m, n, D, Pl, rfl, hb, hl, hm, hmm, rfl, hx⟩
  · exact ⟨_, 0, fun _ => default, rfl, ⟨none, 0, rfl, fun f => by omega⟩, by omega, fun i hi => by omega⟩
  · have hle : len ≤ m := by rw [hmm]; split <;> omega
    have hh := hz.head Try.underlying23
    rw [bytesLW] at hh
    simp only [List.length_map, List.length_range] at hh
    rw [cellsLW] at hx
    obtain ⟨F, hF⟩ := Deep.choose_lt (α := Ed) (n := len) (p := fun i g => ElC 2 0 w (a.add (i * 2)) g ∧ RdE g) (fun i hi => by
      obtain ⟨cs', h1, h2⟩ := hx i (by omega)
      exact read_write h2 h1 (hz.elem Try.underlying23 (List.mem_map.2 ⟨i, List.mem_range.2 hi, rfl⟩)))
    exact ⟨_, len, F, rfl, ⟨some a, cap, rfl, fun _ => ⟨a, rfl, hl, Nat.zero_le _, fun i hi => (hF i hi).1⟩⟩, by omega, fun i hi => (hF i hi).2⟩
/-- what is known of a disk that was read -/
structure RdD (D : Dd) : Prop where
  hn : (D.n : Int) < 140737488355328
  hB : ∀ i, i < D.n → RdE (D.B i)
  hm : (D.m : Int) < 140737488355328
  hQ : ∀ i, i < D.m → RdE (D.Q i)
theorem read_disk {cs : Array Value} {d : DataW H} {p : List MemPlace} (hcz : cs.size = 2) (h : DataW.Trod enc Try.prog w base sp held 25 (.agg cs) d p) (hz : Sz 25 d) :
    ∃ (v1 v2 : Value) (D : Dd), (Value.agg cs) = .agg #[v1, v2] ∧ RowD 0 w v1 v2 D ∧ RdD D := by
  obtain ⟨fuel, hf⟩ := h
  obtain ⟨xs, n, _, hx, hl, hxl, hfi⟩ := DataW.trod_struct Try.underlying25 hf
  have hd := congrArg Prod.fst hx
  dsimp only at hd
  subst hd
  obtain ⟨l⟩ := cs
  match l, hcz with
  | [c0, c1], _ =>
    match xs, hxl with
    | [y0, y1], _ =>
      have t0 := hfi 0 _ rfl
      have t1 := hfi 1 _ rfl
      simp [Value.cells, cellsBss, cellsLWs] at t0 t1
      obtain ⟨v1, n1, F1, e0, r0, s0, s0'⟩ := read_blocks t0 (fun n hn => hz n (by simp [DataW.weights, Try.underlying25, DataW.weightsEach, hn]))
      obtain ⟨v2, n2, F2, e1, r1, s1, s1'⟩ := read_writes t1 (fun n hn => hz n (by simp [DataW.weights, Try.underlying25, DataW.weightsEach, hn]))
      simp only [List.cons.injEq, and_true] at e0 e1
      subst e0 e1
      exact ⟨_, _, ⟨n1, F1, n2, F2⟩, rfl, ⟨r0, r1⟩, ⟨s0, s0', s1, s1'⟩⟩
end
theorem rDisk : Try.prog.readableRec 25 = true ∧ 25 < Try.prog.types.size := ⟨by kernel_rfl, of_decide_eq_true (by kernel_rfl)⟩
theorem disk_stays {H : Type} {enc : TypeId × Value → H} {W W' : World} {v : Value} {d : DataW H} {p : List MemPlace} (h : DataW.Trod enc Try.prog W 0 (fun _ => true) true 25 v d p) (hlt : ∀ x ∈ p, x.block < W.heap.size) (hg : Kb 0 W W') : DataW.Trod enc Try.prog W' 0 (fun b => decide (b < W.heap.size)) true 25 v d p := by
  obtain ⟨fuel, hf⟩ := h
  refine ⟨fuel, DataW.trod_stays (kids_book laidOut rDisk.1) (book_sized rDisk.1) (fun h => by cases h) ⟨rDisk.2, book_self 25⟩ hf (fun x hx => ?_) (fun x hx => by simpa using hlt x hx)⟩
  have hb := hlt x hx
  cases x with
  | cell b o => exact World.cell?_of_block (w := W) (hg.block b (Nat.zero_le _) hb)
  | map b => exact hg.block b (Nat.zero_le _) hb
end Go.Proofs.Ytaggciimacanbaa.Fo
