import Derived.Deep.Slices
import Derived.SizedLaws
import Derived.Carry
import Derived.Test.YtdgainfmidoemaaMGcd
namespace Go.Proofs.Ytdgainfmidoemaa.Fo
open Go.ChangeShapes Go.WideShapes Go.ChangeAt Go.RowKit
set_option linter.unusedVariables false
set_option maxRecDepth 100000
theorem cells3 : Try.prog.cellsOf 3 = 1 := by kernel_rfl
theorem cells2 : Try.prog.cellsOf 2 = 1 := by kernel_rfl
theorem cells9 : Try.prog.cellsOf 9 = 1 := by kernel_rfl
def strOf : Value → ByteArray
  | .string s => s
  | _ => ⟨#[]⟩
def numOf : Value → Int
  | .int _ z => z
  | _ => 0
/-- no string and no slice of a datum is greater than what can be -/
def Sz {H : Type} (t : TypeId) (d : DataW H) : Prop := ∀ n ∈ d.weights Try.prog t, n ≤ 140737488351232
theorem weightsAll_mem {H : Type} {e : TypeId} : ∀ {l : List (DataW H)} {d : DataW H} {n : Nat}, d ∈ l → n ∈ d.weights Try.prog e → n ∈ DataW.weightsAll Try.prog e l
  | [], _, _, h, _ => by cases h
  | x :: r, d, n, h, hn => by
    simp only [DataW.weightsAll, List.mem_append]
    rcases List.mem_cons.1 h with rfl | h
    · exact Or.inl hn
    · exact Or.inr (weightsAll_mem h hn)
theorem Sz.head {H : Type} {t e : TypeId} {el sp : List (DataW H)} (h : Sz t (.slice el sp)) (ht : Try.prog.underlying t = some (.slice e)) : (el.length + sp.length) * Try.prog.bytesOf e ≤ 140737488351232 := h _ (by simp [DataW.weights, ht])
theorem Sz.elem {H : Type} {t e : TypeId} {el sp : List (DataW H)} (h : Sz t (.slice el sp)) (ht : Try.prog.underlying t = some (.slice e)) {d : DataW H} (hd : d ∈ el) : Sz e d := fun n hn => h n (by
  simp only [DataW.weights, ht, List.mem_cons, List.mem_append]
  exact Or.inr (Or.inl (weightsAll_mem hd hn)))
section
variable {H : Type} {enc : TypeId × Value → H} {w : World} {base : Nat} {sp : Nat → Bool} {held : Bool}
theorem cellsLV : Try.prog.cellsOf 23 = 4 := by kernel_rfl
theorem bytesLV : Try.prog.bytesOf 23 = 40 := by kernel_rfl
theorem cellsLVs : Try.prog.cellsOf 86 = 1 := by kernel_rfl
theorem cellsLT : Try.prog.cellsOf 88 = 2 := by kernel_rfl
theorem bytesLT : Try.prog.bytesOf 88 = 32 := by kernel_rfl
theorem cellsLTs : Try.prog.cellsOf 24 = 1 := by kernel_rfl
theorem cellsLG : Try.prog.cellsOf 26 = 5 := by kernel_rfl
/-- what is known of a value that was read -/
def RdV (v : Gv) : Prop := (v.x.size : Int) < 140737488355328 ∧ (-9223372036854775808 ≤ v.m ∧ v.m ≤ 9223372036854775807)
theorem read_val0 {fuel : Nat} {cs : List Value} {x : DataW H × List MemPlace} (h : DataW.trod enc Try.prog w base sp held fuel 23 cs = some x) (hz : Sz 23 x.1) :
    ∃ g : Gv, cs = [.int .i64 g.k, .int .i64 g.m, .string g.x, .int .i64 g.r] ∧ RdV g := by
  obtain ⟨xs, n, _, rfl, hl, hxl, hf⟩ := DataW.trod_struct Try.underlying23 h
  rw [cellsLV] at hl
  match cs, hl with
  | [c0, c1, c2, c3], _ =>
    match xs, hxl with
    | [y0, y1, y2, y3], _ =>
      have t0 := hf 0 _ rfl
      have t1 := hf 1 _ rfl
      have t2 := hf 2 _ rfl
      have t3 := hf 3 _ rfl
      simp [cells3, cells2, cells9] at t0 t1 t2 t3
      have hzz : ∀ n ∈ y2.1.weights Try.prog 9, n ≤ 140737488351232 := by
        intro n hn
        refine hz n ?_
        simp [DataW.weights, Try.underlying23, DataW.weightsEach]
        exact Or.inr (Or.inr (Or.inl hn))
      obtain ⟨z0, e0, _⟩ := DataW.trod_int Try.underlying3 t0
      obtain ⟨z1, e1, _, g5⟩ := DataW.trod_int Try.underlying2 t1
      obtain ⟨z2, e2, e2', _⟩ := DataW.trod_string Try.underlying9 t2
      obtain ⟨z3, e3, _⟩ := DataW.trod_int Try.underlying3 t3
      simp only [List.cons.injEq, and_true] at e0 e1 e2 e3
      subst e0 e1 e2 e3
      refine ⟨⟨z0, z1, z2, z3⟩, rfl, ?_, ?_⟩
      · have := hzz z2.data.toList.length (by rw [e2']; simp [DataW.weights])
        show ((z2.size : Nat) : Int) < _
        have e : z2.size = z2.data.toList.length := by simp
        omega
      · have := g5; simp [Lit.wf, IntKind.min, IntKind.max, IntKind.signed, IntKind.bits] at this; show -9223372036854775808 ≤ z1 ∧ z1 ≤ 9223372036854775807; omega
theorem read_val {fuel : Nat} {cs : List Value} {x : DataW H × List MemPlace} {b : Addr} (h : DataW.trod enc Try.prog w base sp held fuel 23 cs = some x) (hc : w.cells? base b 4 = some cs) (hz : Sz 23 x.1) :
    ∃ g : Gv, ValC 0 w b g ∧ RdV g := by
  obtain ⟨_, hlen, hcell⟩ := World.cells?_some hc
  obtain ⟨g, rfl, hg⟩ := read_val0 h hz
  refine ⟨g, ⟨?_, ?_, ?_, ?_⟩, hg⟩
  · have := hcell 0 (by omega); simpa [Addr.add] using this
  · have := hcell 1 (by omega); simpa [Addr.add] using this
  · have := hcell 2 (by omega); simpa [Addr.add] using this
  · have := hcell 3 (by omega); simpa [Addr.add] using this
theorem read_vals {fuel : Nat} {cs : List Value} {x : DataW H × List MemPlace} (h : DataW.trod enc Try.prog w base sp held fuel 86 cs = some x) (hz : Sz 86 x.1) :
    ∃ (v : Value) (n : Nat) (C : Nat → Gv), cs = [v] ∧ RowW 0 w v n C ∧ (n : Int) < 140737488355328 ∧ ∀ i, i < n → RdV (C i) := by
  rcases Deep.open_slice Try.underlying86 h with ⟨rfl, rfl⟩ | ⟨a, len, cap, m, n, D, Pl, rfl, hb, hl, hm, hmm, rfl, hx⟩
  · exact ⟨_, 0, fun _ => default, rfl, ⟨none, 0, rfl, fun f => by omega⟩, by omega, fun i hi => by omega⟩
  · have hle : len ≤ m := by rw [hmm]; split <;> omega
    have hh := hz.head Try.underlying86
    rw [bytesLV] at hh
    simp only [List.length_map, List.length_range] at hh
    rw [cellsLV] at hx
    obtain ⟨F, hF⟩ := Deep.choose_lt (α := Gv) (n := len) (p := fun i g => ValC 0 w (a.add (i * 4)) g ∧ RdV g) (fun i hi => by
      obtain ⟨cs', h1, h2⟩ := hx i (by omega)
      exact read_val h2 h1 (hz.elem Try.underlying86 (List.mem_map.2 ⟨i, List.mem_range.2 hi, rfl⟩)))
    exact ⟨_, len, F, rfl, ⟨some a, cap, rfl, fun _ => ⟨a, rfl, hl, Nat.zero_le _, fun i hi => (hF i hi).1⟩⟩, by omega, fun i hi => (hF i hi).2⟩
/-- what is known of a thing that was read -/
def RdT (d : Td) : Prop := (d.c : Int) < 140737488355328 ∧ ∀ j, j < d.c → RdV (d.C j)
theorem read_thing {fuel : Nat} {cs : List Value} {x : DataW H × List MemPlace} {b : Addr} (h : DataW.trod enc Try.prog w base sp held fuel 88 cs = some x) (hc : w.cells? base b 2 = some cs) (hz : Sz 88 x.1) :
    ∃ g : Td, ThC 0 w b g ∧ RdT g := by
  obtain ⟨_, hlen, hcell⟩ := World.cells?_some hc
  obtain ⟨xs, n, _, rfl, hl, hxl, hf⟩ := DataW.trod_struct Try.underlying88 h
  match cs, hlen with
  | [c0, c1], _ =>
    match xs, hxl with
    | [y0, y1], _ =>
      have t0 := hf 0 _ rfl
      have t1 := hf 1 _ rfl
      simp [cells3, cellsLVs] at t0 t1
      have hzz : ∀ n ∈ y1.1.weights Try.prog 86, n ≤ 140737488351232 := by
        intro n hn
        refine hz n ?_
        simp [DataW.weights, Try.underlying88, DataW.weightsEach]
        exact Or.inr hn
      obtain ⟨z0, e0, _⟩ := DataW.trod_int Try.underlying3 t0
      obtain ⟨vc, c, C, e1, r1, s1, s1'⟩ := read_vals t1 hzz
      simp only [List.cons.injEq, and_true] at e0 e1
      subst e0 e1
      refine ⟨⟨z0, c, C⟩, ⟨_, ⟨?_, ?_⟩, r1⟩, s1, s1'⟩
      · have := hcell 0 (by omega); simpa [Addr.add] using this
      · have := hcell 1 (by omega); simpa [Addr.add] using this
theorem read_things {fuel : Nat} {cs : List Value} {x : DataW H × List MemPlace} (h : DataW.trod enc Try.prog w base sp held fuel 24 cs = some x) (hz : Sz 24 x.1) :
    ∃ (v : Value) (n : Nat) (F : Nat → Td), cs = [v] ∧ RowT 0 w v n F ∧ (n : Int) < 140737488355328 ∧ ∀ i, i < n → RdT (F i) := by
  rcases Deep.open_slice Try.underlying24 h with ⟨rfl, rfl⟩ | ⟨a, len, cap, m, n, D, Pl, rfl, hb, hl, hm, hmm, rfl, hx⟩
  · exact ⟨_, 0, fun _ => default, rfl, ⟨none, 0, rfl, fun f => by omega⟩, by omega, fun i hi => by omega⟩
  · have hle : len ≤ m := by rw [hmm]; split <;> omega
    have hh := hz.head Try.underlying24
    rw [bytesLT] at hh
    simp only [List.length_map, List.length_range] at hh
    rw [cellsLT] at hx
    obtain ⟨F, hF⟩ := Deep.choose_lt (α := Td) (n := len) (p := fun i g => ThC 0 w (a.add (i * 2)) g ∧ RdT g) (fun i hi => by
      obtain ⟨cs', h1, h2⟩ := hx i (by omega)
      exact read_thing h2 h1 (hz.elem Try.underlying24 (List.mem_map.2 ⟨i, List.mem_range.2 hi, rfl⟩)))
    exact ⟨_, len, F, rfl, ⟨some a, cap, rfl, fun _ => ⟨a, rfl, hl, Nat.zero_le _, fun i hi => (hF i hi).1⟩⟩, by omega, fun i hi => (hF i hi).2⟩
theorem read_graph {cs : Array Value} {d : DataW H} {p : List MemPlace} (hcz : cs.size = 5) (h : DataW.Trod enc Try.prog w base sp held 26 (.agg cs) d p) (hz : Sz 26 d) :
    ∃ (a : Gv) (va : Value) (n : Nat) (F : Nat → Td), (Value.agg cs) = grv a va ∧ RowT 0 w va n F ∧ (n : Int) < 140737488355328 ∧ RdV a ∧ ∀ i, i < n → RdT (F i) := by
  obtain ⟨fuel, hf⟩ := h
  obtain ⟨xs, n, _, hx, hl, hxl, hfi⟩ := DataW.trod_struct Try.underlying26 hf
  have hd := congrArg Prod.fst hx
  dsimp only at hd
  subst hd
  obtain ⟨l⟩ := cs
  match l, hcz with
  | [c0, c1, c2, c3, c4], _ =>
    match xs, hxl with
    | [y0, y1], _ =>
      have t0 := hfi 0 _ rfl
      have t1 := hfi 1 _ rfl
      simp [Value.cells, cellsLV, cellsLTs] at t0 t1
      obtain ⟨a, e0, ra⟩ := read_val0 t0 (fun n hn => hz n (by simp [DataW.weights, Try.underlying26, DataW.weightsEach, hn]))
      obtain ⟨va, nn, F, e1, r1, s1, s1'⟩ := read_things t1 (fun n hn => hz n (by simp [DataW.weights, Try.underlying26, DataW.weightsEach, hn]))
      simp only [List.cons.injEq, and_true] at e0 e1
      obtain ⟨q0, q1, q2, q3⟩ := e0
      subst e1 q0 q1 q2 q3
      exact ⟨a, _, nn, F, rfl, r1, s1, ra, s1'⟩
end
theorem laidOut : laidOutB Try.prog = true := by kernel_rfl
theorem rGra : Try.prog.readableRec 26 = true ∧ 26 < Try.prog.types.size := ⟨by kernel_rfl, of_decide_eq_true (by kernel_rfl)⟩
theorem gra_stays {H : Type} {enc : TypeId × Value → H} {W W' : World} {v : Value} {d : DataW H} {p : List MemPlace} (h : DataW.Trod enc Try.prog W 0 (fun _ => true) true 26 v d p) (hlt : ∀ x ∈ p, x.block < W.heap.size) (hg : Kb 0 W W') : DataW.Trod enc Try.prog W' 0 (fun b => decide (b < W.heap.size)) true 26 v d p := by
  obtain ⟨fuel, hf⟩ := h
  refine ⟨fuel, DataW.trod_stays (kids_book laidOut rGra.1) (book_sized rGra.1) (fun h => by cases h) ⟨rGra.2, book_self 26⟩ hf (fun x hx => ?_) (fun x hx => by simpa using hlt x hx)⟩
  have hb := hlt x hx
  cases x with
  | cell b o => exact World.cell?_of_block (w := W) (hg.block b (Nat.zero_le _) hb)
  | map b => exact hg.block b (Nat.zero_le _) hb
theorem bt_of {n : Nat} {F : Nat → Td} (h : ∀ i, i < n → RdT (F i)) : BT F n := fun i hi => ⟨(h i hi).1, fun j hj => ((h i hi).2 j hj).1⟩
end Go.Proofs.Ytdgainfmidoemaa.Fo
