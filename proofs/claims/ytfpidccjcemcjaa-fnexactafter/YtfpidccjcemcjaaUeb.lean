import Derived.Test.YtfpidccjcemcjaaUea
import Derived.Deep.Slices
import Derived.SizedLaws
import Derived.Carry
namespace Go.Proofs.Ytfpidccjcemcjaa
open Go.ChangeShapes Go.WideShapes Go.ChangeAt Go.RowKit
set_option linter.unusedVariables false
set_option maxRecDepth 100000
theorem bytesP : Try.prog.bytesOf 83 = 104 := by kernel_rfl
theorem cellsP : Try.prog.cellsOf 83 = 11 := by kernel_rfl
theorem cellsPS : Try.prog.cellsOf 33 = 1 := by kernel_rfl
theorem cellsT : Try.prog.cellsOf 35 = 2 := by kernel_rfl
theorem rTab : Try.prog.readableRec 35 = true ∧ 35 < Try.prog.types.size := ⟨by kernel_rfl, of_decide_eq_true (by kernel_rfl)⟩
theorem weightsAll_mem {H : Type} {e : TypeId} : ∀ {l : List (DataW H)} {d : DataW H} {n : Nat}, d ∈ l → n ∈ d.weights Try.prog e → n ∈ DataW.weightsAll Try.prog e l
  | [], _, _, h, _ => by cases h
  | x :: r, d, n, h, hn => by
    simp only [DataW.weightsAll, List.mem_append]
    rcases List.mem_cons.1 h with rfl | h
    · exact Or.inl hn
    · exact Or.inr (weightsAll_mem h hn)
theorem Sz.head {H : Type} {t e : TypeId} {el sp : List (DataW H)} (h : Sz t (.slice el sp)) (ht : Try.prog.underlying t = some (.slice e)) : (el.length + sp.length) * Try.prog.bytesOf e ≤ 140737488351232 := h _ (by simp [DataW.weights, ht])
theorem Sz.elem {H : Type} {t e : TypeId} {el sp : List (DataW H)} (h : Sz t (.slice el sp)) (ht : Try.prog.underlying t = some (.slice e)) {d : DataW H} (hd : d ∈ el) : Sz e d := fun n hn => h n (by
  simp only [DataW.weights, ht, List.mem_cons, List.mem_append]
  exact Or.inr (Or.inl (weightsAll_mem hd hn)))
theorem tab_stays_kq {H : Type} {enc : TypeId × Value → H} {W W' : World} {v : Value} {d : DataW H} {p : List MemPlace} (h : DataW.Trod enc Try.prog W 0 (fun _ => true) true 35 v d p) (hlt : ∀ x ∈ p, x.block < W.heap.size) (hg : Kq W W') : DataW.Trod enc Try.prog W' 0 (fun b => decide (b < W.heap.size)) true 35 v d p := by
  obtain ⟨fuel, hf⟩ := h
  refine ⟨fuel, DataW.trod_stays (kids_book laidOut rTab.1) (book_sized rTab.1) (fun h => by cases h) ⟨rTab.2, book_self 35⟩ hf (fun x hx => ?_) (fun x hx => by simpa using hlt x hx)⟩
  have hb := hlt x hx
  cases x with
  | cell b o => exact World.cell?_of_block (w := W) (hg.block b hb)
  | map b => exact hg.block b hb
section
variable {H : Type} {enc : TypeId × Value → H} {w : World} {base : Nat} {sp : Nat → Bool} {held : Bool}
set_option maxRecDepth 100000 in
theorem read_vl {fuel : Nat} {l : List Value} {x : DataW H × List MemPlace} (hcz : l.length = 5) (hf : DataW.trod enc Try.prog w base sp held fuel 24 l = some x) (hz : Sz 24 x.1) : ∃ v : Vv, l = [.int .i64 v.k, .int .i64 v.m, .float .f64 v.g, .string v.x, .int .i64 v.r] ∧ Vb v := by
  obtain ⟨xs, n, _, hx, hl, hxl, hfi⟩ := DataW.trod_struct Try.underlying24 hf
  have hd := congrArg Prod.fst hx
  dsimp only at hd
  rw [hd] at hz
  match l, hcz with
  | [c0, c1, c2, c3, c4], _ =>
    match xs, hxl with
    | [y0, y1, y2, y3, y4], _ =>
      have t0 := hfi 0 _ rfl
      have t1 := hfi 1 _ rfl
      have t2 := hfi 2 _ rfl
      have t3 := hfi 3 _ rfl
      have t4 := hfi 4 _ rfl
      simp [cells3, cells2, cells9, cellsF] at t0 t1 t2 t3 t4
      obtain ⟨z0, e0, _, g0⟩ := DataW.trod_int Try.underlying3 t0
      obtain ⟨z1, e1, _, g1⟩ := DataW.trod_int Try.underlying2 t1
      obtain ⟨z2, e2, g2⟩ := trod_flt Try.underlying22 t2
      obtain ⟨z3, e3, e3', _⟩ := DataW.trod_string Try.underlying9 t3
      obtain ⟨z4, e4, _, g4⟩ := DataW.trod_int Try.underlying3 t4
      simp only [List.cons.injEq, and_true] at e0 e1 e2 e3 e4
      subst e0 e1 e2 e3 e4
      refine ⟨⟨z0, z1, z2, z3, z4⟩, rfl, ?_, ?_, g2, ?_, ?_⟩
      · have := g0; simp [Lit.wf, IntKind.min, IntKind.max, IntKind.signed, IntKind.bits] at this; show -9223372036854775808 ≤ z0 ∧ z0 ≤ 9223372036854775807; omega
      · have := g1; simp [Lit.wf, IntKind.min, IntKind.max, IntKind.signed, IntKind.bits] at this; show -9223372036854775808 ≤ z1 ∧ z1 ≤ 9223372036854775807; omega
      · have := hz z3.data.toList.length (by simp [DataW.weights, Try.underlying24, DataW.weightsEach, e3'])
        show ((z3.size : Nat) : Int) < _
        have e : z3.size = z3.data.toList.length := by simp
        omega
      · have := g4; simp [Lit.wf, IntKind.min, IntKind.max, IntKind.signed, IntKind.bits] at this; show -9223372036854775808 ≤ z4 ∧ z4 ≤ 9223372036854775807; omega
theorem addr_succ (b : Addr) (j : Nat) : b.add (j + 1) = ⟨b.block, b.off + (j + 1), none⟩ := by simp [Addr.add]
set_option maxRecDepth 100000 in
theorem read_pair {fuel : Nat} {cs : List Value} {x : DataW H × List MemPlace} {b : Addr} (h : DataW.trod enc Try.prog w base sp held fuel 83 cs = some x) (hc : w.cells? base b 11 = some cs) (hz : Sz 83 x.1) :
    ∃ p : Pv, Cp w b p ∧ Vb p.a ∧ Vb p.b ∧ -9223372036854775808 ≤ p.t ∧ p.t ≤ 9223372036854775807 := by
  obtain ⟨_, hlen, hcell⟩ := World.cells?_some hc
  obtain ⟨xs, n, _, rfl, hl, hxl, hf⟩ := DataW.trod_struct Try.underlying83 h
  match cs, hlen with
  | [c0, c1, c2, c3, c4, c5, c6, c7, c8, c9, c10], _ =>
    match xs, hxl with
    | [y0, y1, y2], _ =>
      have t0 := hf 0 _ rfl
      have t1 := hf 1 _ rfl
      have t2 := hf 2 _ rfl
      simp [cells3, cellsV] at t0 t1 t2
      obtain ⟨va, ea, ba⟩ := read_vl rfl t0 (fun n hn => hz n (by simp [DataW.weights, Try.underlying83, DataW.weightsEach, hn]))
      obtain ⟨vb, eb, bb⟩ := read_vl rfl t1 (fun n hn => hz n (by simp [DataW.weights, Try.underlying83, DataW.weightsEach, hn]))
      obtain ⟨z2, e2, _, g2⟩ := DataW.trod_int Try.underlying3 t2
      simp only [List.cons.injEq, and_true] at ea eb e2
      obtain ⟨rfl, rfl, rfl, rfl, rfl⟩ := ea
      obtain ⟨rfl, rfl, rfl, rfl, rfl⟩ := eb
      subst e2
      refine ⟨⟨va, vb, z2⟩, ⟨?_, ?_, ?_, ?_, ?_, ?_, ?_, ?_, ?_, ?_, ?_⟩, ba, bb, ?_⟩
      · have := hcell 0 (by omega); simpa [Addr.add] using this
      · have := hcell 1 (by omega); simpa [Addr.add] using this
      · have := hcell 2 (by omega); simpa [Addr.add] using this
      · have := hcell 3 (by omega); simpa [Addr.add] using this
      · have := hcell 4 (by omega); simpa [Addr.add] using this
      · have := hcell 5 (by omega); simpa [Addr.add] using this
      · have := hcell 6 (by omega); simpa [Addr.add] using this
      · have := hcell 7 (by omega); simpa [Addr.add] using this
      · have := hcell 8 (by omega); simpa [Addr.add] using this
      · have := hcell 9 (by omega); simpa [Addr.add] using this
      · have := hcell 10 (by omega); simpa [Addr.add] using this
      · have := g2; simp [Lit.wf, IntKind.min, IntKind.max, IntKind.signed, IntKind.bits] at this; show -9223372036854775808 ≤ z2 ∧ z2 ≤ 9223372036854775807; omega
instance : Inhabited Pv := ⟨pz⟩
theorem read_pairs {fuel : Nat} {cs : List Value} {x : DataW H × List MemPlace} (h : DataW.trod enc Try.prog w base sp held fuel 33 cs = some x) (hz : Sz 33 x.1) :
    ∃ (pa : Option Addr) (ca n : Nat) (F : Nat → Pv), cs = [.slice pa n ca] ∧ Ta w (.slice pa n ca) n F := by
  rcases Deep.open_slice Try.underlying33 h with ⟨rfl, rfl⟩ | ⟨a, len, cap, m, n, D, Pl, rfl, hb, hl, hm, hmm, rfl, hx⟩
  · exact ⟨none, 0, 0, fun _ => pz, rfl, ⟨⟨none, 0, rfl, fun f => by omega⟩, by omega, fun i hi => by omega, fun i hi => by omega, fun i hi => by omega⟩⟩
  · have hle : len ≤ m := by rw [hmm]; split <;> omega
    have hh := hz.head Try.underlying33
    rw [bytesP] at hh
    simp only [List.length_map, List.length_range] at hh
    rw [cellsP] at hx
    obtain ⟨F, hF⟩ := Deep.choose_lt (α := Pv) (n := len) (p := fun i p => Cp w (a.add (i * 11)) p ∧ Vb p.a ∧ Vb p.b ∧ -9223372036854775808 ≤ p.t ∧ p.t ≤ 9223372036854775807) (fun i hi => by
      obtain ⟨cs', h1, h2⟩ := hx i (by omega)
      exact read_pair h2 h1 (hz.elem Try.underlying33 (List.mem_map.2 ⟨i, List.mem_range.2 hi, rfl⟩)))
    exact ⟨some a, cap, len, F, rfl, ⟨⟨some a, cap, rfl, fun _ => ⟨a, rfl, hl, fun i hi => (hF i hi).1⟩⟩, by omega, fun i hi => (hF i hi).2.1, fun i hi => (hF i hi).2.2.1, fun i hi => (hF i hi).2.2.2⟩⟩
set_option maxRecDepth 100000 in
theorem read_table {cs : Array Value} {d : DataW H} {p : List MemPlace} (hcz : cs.size = 2) (h : DataW.Trod enc Try.prog w base sp held 35 (.agg cs) d p) (hz : Sz 35 d) : ∃ (v : Value) (T : Int) (n : Nat) (F : Nat → Pv), (Value.agg cs) = .agg #[v, .int .i64 T] ∧ Ta w v n F ∧ -9223372036854775808 ≤ T ∧ T ≤ 9223372036854775807 := by
  obtain ⟨fuel, hf⟩ := h
  obtain ⟨xs, n, _, hx, hl, hxl, hfi⟩ := DataW.trod_struct Try.underlying35 hf
  have hd := congrArg Prod.fst hx
  dsimp only at hd
  subst hd
  obtain ⟨l⟩ := cs
  match l, hcz with
  | [c0, c1], _ =>
    match xs, hxl with
    | [y0, y1], _ =>
      have t0 := hfi 0 _ rfl
      have t1 := hfi 1 _ rfl
      simp [Value.cells, cells3, cellsPS] at t0 t1
      obtain ⟨pa, ca, n, F, e0, ta⟩ := read_pairs t0 (fun n hn => hz n (by simp [DataW.weights, Try.underlying35, DataW.weightsEach, hn]))
      obtain ⟨z1, e1, _, g1⟩ := DataW.trod_int Try.underlying3 t1
      simp only [List.cons.injEq, and_true] at e0 e1
      subst e0 e1
      refine ⟨_, z1, n, F, rfl, ta, ?_⟩
      have := g1; simp [Lit.wf, IntKind.min, IntKind.max, IntKind.signed, IntKind.bits] at this; omega
end
end Go.Proofs.Ytfpidccjcemcjaa
