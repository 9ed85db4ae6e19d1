import Derived.Test.YtgpbmmhfhjobkaaBav
import Derived.Deep.Slices
import Derived.SizedLaws
import Derived.Carry
namespace Go.Proofs.Ytgpbmmhfhjobkaa
open Go.ChangeShapes Go.WideShapes Go.ChangeAt Go.RowKit
set_option linter.unusedVariables false
theorem cells3 : Try.prog.cellsOf 3 = 1 := by kernel_rfl
theorem cells2 : Try.prog.cellsOf 2 = 1 := by kernel_rfl
theorem cells9 : Try.prog.cellsOf 9 = 1 := by kernel_rfl
theorem cells35 : Try.prog.cellsOf 35 = 1 := by kernel_rfl
theorem cells36 : Try.prog.cellsOf 36 = 1 := by kernel_rfl
theorem cells22 : Try.prog.cellsOf 22 = 1 := by kernel_rfl
theorem cells24 : Try.prog.cellsOf 24 = 1 := by kernel_rfl
theorem cells47 : Try.prog.cellsOf 47 = 9 := by kernel_rfl
theorem bytes3 : Try.prog.bytesOf 3 = 8 := by kernel_rfl
theorem bytes9 : Try.prog.bytesOf 9 = 16 := by kernel_rfl
theorem bytes47 : Try.prog.bytesOf 47 = 112 := by kernel_rfl
def strOf : Value → ByteArray
  | .string s => s
  | _ => ⟨#[]⟩
def numOf : Value → Int
  | .int _ z => z
  | _ => 0
/-- no string and no slice of a datum is greater than what can be -/
def Sz {H : Type} (t : TypeId) (d : DataW H) : Prop := ∀ n ∈ d.weights Try.prog t, n ≤ 140737488351232
theorem weightsAll_mem {H : Type} {e : TypeId} : ∀ {l : List (DataW H)} {d : DataW H} {n : Nat}, d ∈ l → n ∈ d.weights Try.prog e → n ∈ DataW.weightsAll Try.prog e l
  | [], _, _, h, _ => by cases h
  | x :: r, d, n, h, hn => by
    simp only [DataW.weightsAll, List.mem_append]
    rcases List.mem_cons.1 h with rfl | h
    · exact Or.inl hn
    · exact Or.inr (weightsAll_mem h hn)
theorem Sz.head {H : Type} {t e : TypeId} {el sp : List (DataW H)} (h : Sz t (.slice el sp)) (ht : Try.prog.underlying t = some (.slice e)) : (el.length + sp.length) * Try.prog.bytesOf e ≤ 140737488351232 := h _ (by simp [DataW.weights, ht])
theorem Sz.elem {H : Type} {t e : TypeId} {el sp : List (DataW H)} (h : Sz t (.slice el sp)) (ht : Try.prog.underlying t = some (.slice e)) {d : DataW H} (hd : d ∈ el) : Sz e d := fun n hn => h n (by
  simp only [DataW.weights, ht, List.mem_cons, List.mem_append]
  exact Or.inr (Or.inl (weightsAll_mem hd hn)))
section
variable {H : Type} {enc : TypeId × Value → H} {w : World} {base : Nat} {sp : Nat → Bool} {held : Bool}
theorem read_ints {fuel : Nat} {cs : List Value} {x : DataW H × List MemPlace} (h : DataW.trod enc Try.prog w base sp held fuel 36 cs = some x) (hz : Sz 36 x.1) :
    ∃ (v : Value) (n : Nat) (A : Nat → Int), cs = [v] ∧ RowV w v n (fun i => .int .i64 (A i)) ∧ (n : Int) < 140737488355328 := by
  rcases Deep.open_slice1 Try.underlying36 cells3 h with ⟨rfl, rfl⟩ | ⟨a, len, cap, m, n, V, D, Pl, rfl, hb, hl, hm, hmm, rfl, hx⟩
  · exact ⟨.slice none 0 0, 0, fun _ => 0, rfl, ⟨none, 0, rfl, fun f => by omega⟩, by omega⟩
  · have hle : len ≤ m := by rw [hmm]; split <;> omega
    have hh := hz.head Try.underlying36
    rw [bytes3] at hh
    simp only [List.length_map, List.length_range] at hh
    refine ⟨_, len, fun i => numOf (V i), rfl, ⟨some a, cap, rfl, fun _ => ⟨a, rfl, hl, fun i hi => ?_⟩⟩, by omega⟩
    obtain ⟨h1, h2⟩ := hx i (by omega)
    obtain ⟨z, e1, _⟩ := DataW.trod_int Try.underlying3 h2
    simp only [List.cons.injEq, and_true] at e1
    rw [h1]
    show some (V i) = some (.int .i64 (numOf (V i)))
    rw [e1]; rfl
theorem read_strs {fuel : Nat} {cs : List Value} {x : DataW H × List MemPlace} (h : DataW.trod enc Try.prog w base sp held fuel 35 cs = some x) (hz : Sz 35 x.1) :
    ∃ (v : Value) (n : Nat) (A : Nat → ByteArray), cs = [v] ∧ RowV w v n (fun i => .string (A i)) ∧ (n : Int) < 140737488355328 ∧ ∀ i, i < n → ((A i).size : Int) < 140737488355328 := by
  rcases Deep.open_slice1 Try.underlying35 cells9 h with ⟨rfl, rfl⟩ | ⟨a, len, cap, m, n, V, D, Pl, rfl, hb, hl, hm, hmm, rfl, hx⟩
  · exact ⟨.slice none 0 0, 0, fun _ => ⟨#[]⟩, rfl, ⟨none, 0, rfl, fun f => by omega⟩, by omega, fun i hi => by omega⟩
  · have hle : len ≤ m := by rw [hmm]; split <;> omega
    have hh := hz.head Try.underlying35
    rw [bytes9] at hh
    simp only [List.length_map, List.length_range] at hh
    refine ⟨_, len, fun i => strOf (V i), rfl, ⟨some a, cap, rfl, fun _ => ⟨a, rfl, hl, fun i hi => ?_⟩⟩, by omega, fun i hi => ?_⟩
    · obtain ⟨h1, h2⟩ := hx i (by omega)
      obtain ⟨z, e1, _⟩ := DataW.trod_string Try.underlying9 h2
      simp only [List.cons.injEq, and_true] at e1
      rw [h1]
      show some (V i) = some (.string (strOf (V i)))
      rw [e1]; rfl
    · obtain ⟨h1, h2⟩ := hx i (by omega)
      obtain ⟨z, e1, e2, _⟩ := DataW.trod_string Try.underlying9 h2
      simp only [List.cons.injEq, and_true] at e1
      have hs := hz.elem Try.underlying35 (d := D i) (List.mem_map.2 ⟨i, List.mem_range.2 hi, rfl⟩)
      rw [show D i = .lit (.string z.data.toList) from congrArg Prod.fst e2] at hs
      have := hs z.data.toList.length (by simp [DataW.weights])
      show ((strOf (V i)).size : Int) < _
      rw [e1]
      show ((z.size : Nat) : Int) < _
      have e : z.size = z.data.toList.length := by simp
      omega
theorem add_succ (b : Addr) (j : Nat) : b.add (j + 1) = ⟨b.block, b.off + (j + 1), none⟩ := by simp [Addr.add]
theorem read_form {fuel : Nat} {cs : List Value} {x : DataW H × List MemPlace} {b : Addr} (h : DataW.trod enc Try.prog w base sp held fuel 47 cs = some x) (hc : w.cells? base b 9 = some cs) (hz : Sz 47 x.1) :
    ∃ g : Gv, FormC w b g ∧ (g.a.x.size : Int) < 140737488355328 ∧ (g.p : Int) < 140737488355328 ∧ (∀ j, j < g.p → ((g.A j).size : Int) < 140737488355328) ∧ (g.q : Int) < 140737488355328 := by
  obtain ⟨_, hlen, hcell⟩ := World.cells?_some hc
  obtain ⟨xs, n, _, rfl, hl, hxl, hf⟩ := DataW.trod_struct Try.underlying47 h
  match cs, hlen with
  | [c0, c1, c2, c3, c4, c5, c6, c7, c8], _ =>
    match xs, hxl with
    | [y0, y1, y2, y3, y4, y5, y6, y7, y8], _ =>
      have t0 := hf 0 _ rfl
      have t1 := hf 1 _ rfl
      have t2 := hf 2 _ rfl
      have t3 := hf 3 _ rfl
      have t4 := hf 4 _ rfl
      have t5 := hf 5 _ rfl
      have t6 := hf 6 _ rfl
      have t7 := hf 7 _ rfl
      have t8 := hf 8 _ rfl
      simp [cells3, cells2, cells9, cells35, cells36] at t0 t1 t2 t3 t4 t5 t6 t7 t8
      have hzz : ∀ n ∈ y6.1.weights Try.prog 9 ++ (y7.1.weights Try.prog 35 ++ y8.1.weights Try.prog 36), n ≤ 140737488351232 := by
        intro n hn
        refine hz n ?_
        simp [DataW.weights, Try.underlying47, DataW.weightsEach]
        simp at hn
        exact Or.inr (Or.inr (Or.inr (Or.inr (Or.inr (Or.inr hn)))))
      obtain ⟨z0, e0, _⟩ := DataW.trod_int Try.underlying3 t0
      obtain ⟨z1, e1, _⟩ := DataW.trod_int Try.underlying3 t1
      obtain ⟨z2, e2, _⟩ := DataW.trod_int Try.underlying3 t2
      obtain ⟨z3, e3, _⟩ := DataW.trod_int Try.underlying3 t3
      obtain ⟨z4, e4, _⟩ := DataW.trod_int Try.underlying3 t4
      obtain ⟨z5, e5, _⟩ := DataW.trod_int Try.underlying2 t5
      obtain ⟨z6, e6, e6', _⟩ := DataW.trod_string Try.underlying9 t6
      obtain ⟨vn, p, A, e7, r7, s7, s7'⟩ := read_strs t7 (fun n hn => hzz n (by simp [hn]))
      obtain ⟨vk, q, K, e8, r8, s8⟩ := read_ints t8 (fun n hn => hzz n (by simp [hn]))
      simp only [List.cons.injEq, and_true] at e0 e1 e2 e3 e4 e5 e6 e7 e8
      subst e0 e1 e2 e3 e4 e5 e6 e7 e8
      refine ⟨⟨⟨z0, z1, z2, z3, z4, z5, z6⟩, p, A, q, K⟩, ⟨_, _, ⟨?_, ?_, ?_, ?_, ?_, ?_, ?_, ?_, ?_⟩, r7, r8⟩, ?_, s7, s7', s8⟩
      · have := hcell 0 (by omega); simpa [Addr.add] using this
      · have := hcell 1 (by omega); simpa [Addr.add] using this
      · have := hcell 2 (by omega); simpa [Addr.add] using this
      · have := hcell 3 (by omega); simpa [Addr.add] using this
      · have := hcell 4 (by omega); simpa [Addr.add] using this
      · have := hcell 5 (by omega); simpa [Addr.add] using this
      · have := hcell 6 (by omega); simpa [Addr.add] using this
      · have := hcell 7 (by omega); simpa [Addr.add] using this
      · have := hcell 8 (by omega); simpa [Addr.add] using this
      · have := hzz z6.data.toList.length (by rw [e6']; simp [DataW.weights])
        show ((z6.size : Nat) : Int) < _
        have e : z6.size = z6.data.toList.length := by simp
        omega
instance : Inhabited Gv := ⟨⟨fv0, 0, fun _ => ⟨#[]⟩, 0, fun _ => 0⟩⟩
theorem read_forms {fuel : Nat} {cs : List Value} {x : DataW H × List MemPlace} (h : DataW.trod enc Try.prog w base sp held fuel 22 cs = some x) (hz : Sz 22 x.1) :
    ∃ (pa : Option Addr) (ca n : Nat) (F : Nat → Gv), cs = [.slice pa n ca] ∧ RowF w (.slice pa n ca) n F ∧ (n : Int) < 140737488355328 ∧ ∀ i, i < n → ((F i).a.x.size : Int) < 140737488355328 ∧ ((F i).p : Int) < 140737488355328 ∧ (∀ j, j < (F i).p → (((F i).A j).size : Int) < 140737488355328) ∧ ((F i).q : Int) < 140737488355328 := by
  rcases Deep.open_slice Try.underlying22 h with ⟨rfl, rfl⟩ | ⟨a, len, cap, m, n, D, Pl, rfl, hb, hl, hm, hmm, rfl, hx⟩
  · exact ⟨none, 0, 0, fun _ => default, rfl, ⟨none, 0, rfl, fun f => by omega⟩, by omega, fun i hi => by omega⟩
  · have hle : len ≤ m := by rw [hmm]; split <;> omega
    have hh := hz.head Try.underlying22
    rw [bytes47] at hh
    simp only [List.length_map, List.length_range] at hh
    rw [cells47] at hx
    obtain ⟨F, hF⟩ := Deep.choose_lt (α := Gv) (n := len) (p := fun i g => FormC w (a.add (i * 9)) g ∧ (g.a.x.size : Int) < 140737488355328 ∧ (g.p : Int) < 140737488355328 ∧ (∀ j, j < g.p → ((g.A j).size : Int) < 140737488355328) ∧ (g.q : Int) < 140737488355328) (fun i hi => by
      obtain ⟨cs', h1, h2⟩ := hx i (by omega)
      exact read_form h2 h1 (hz.elem Try.underlying22 (List.mem_map.2 ⟨i, List.mem_range.2 hi, rfl⟩)))
    exact ⟨some a, cap, len, F, rfl, ⟨some a, cap, rfl, fun _ => ⟨a, rfl, hl, fun i hi => (hF i hi).1⟩⟩, by omega, fun i hi => (hF i hi).2⟩
end
end Go.Proofs.Ytgpbmmhfhjobkaa
