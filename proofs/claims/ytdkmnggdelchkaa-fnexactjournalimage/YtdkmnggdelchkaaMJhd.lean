import Derived.Deep.Slices
import Derived.SizedLaws
import Derived.Carry
import Derived.Test.YtdkmnggdelchkaaMJhc
namespace Go.Proofs.Ytdkmnggdelchkaa.Fo
open Go.ChangeShapes Go.WideShapes Go.ChangeAt Go.RowKit
set_option linter.unusedVariables false
set_option maxRecDepth 100000
theorem cells3 : Try.prog.cellsOf 3 = 1 := by kernel_rfl
theorem cells2 : Try.prog.cellsOf 2 = 1 := by kernel_rfl
theorem cells9 : Try.prog.cellsOf 9 = 1 := by kernel_rfl
def strOf : Value → ByteArray
  | .string s => s
  | _ => ⟨#[]⟩
def numOf : Value → Int
  | .int _ z => z
  | _ => 0
/-- no string and no slice of a datum is greater than what can be -/
def Sz {H : Type} (t : TypeId) (d : DataW H) : Prop := ∀ n ∈ d.weights Try.prog t, n ≤ 140737488351232
theorem weightsAll_mem {H : Type} {e : TypeId} : ∀ {l : List (DataW H)} {d : DataW H} {n : Nat}, d ∈ l → n ∈ d.weights Try.prog e → n ∈ DataW.weightsAll Try.prog e l
  | [], _, _, h, _ => by cases h
  | x :: r, d, n, h, hn => by
    simp only [DataW.weightsAll, List.mem_append]
    rcases List.mem_cons.1 h with rfl | h
    · exact Or.inl hn
    · exact Or.inr (weightsAll_mem h hn)
theorem Sz.head {H : Type} {t e : TypeId} {el sp : List (DataW H)} (h : Sz t (.slice el sp)) (ht : Try.prog.underlying t = some (.slice e)) : (el.length + sp.length) * Try.prog.bytesOf e ≤ 140737488351232 := h _ (by simp [DataW.weights, ht])
theorem Sz.elem {H : Type} {t e : TypeId} {el sp : List (DataW H)} (h : Sz t (.slice el sp)) (ht : Try.prog.underlying t = some (.slice e)) {d : DataW H} (hd : d ∈ el) : Sz e d := fun n hn => h n (by
  simp only [DataW.weights, ht, List.mem_cons, List.mem_append]
  exact Or.inr (Or.inl (weightsAll_mem hd hn)))
section
variable {H : Type} {enc : TypeId × Value → H} {w : World} {base : Nat} {sp : Nat → Bool} {held : Bool}
theorem cellsLP : Try.prog.cellsOf 72 = 4 := by kernel_rfl
theorem bytesLP : Try.prog.bytesOf 72 = 40 := by kernel_rfl
theorem cellsLPs : Try.prog.cellsOf 23 = 1 := by kernel_rfl
theorem cellsSs : Try.prog.cellsOf 22 = 1 := by kernel_rfl
theorem cellsLJ : Try.prog.cellsOf 25 = 4 := by kernel_rfl
theorem bytes9 : Try.prog.bytesOf 9 = 16 := by kernel_rfl
theorem read_strs {fuel : Nat} {cs : List Value} {x : DataW H × List MemPlace} (h : DataW.trod enc Try.prog w base sp held fuel 22 cs = some x) (hz : Sz 22 x.1) :
    ∃ (v : Value) (n : Nat) (A : Nat → ByteArray), cs = [v] ∧ RowV w v n (fun i => .string (A i)) ∧ (n : Int) < 140737488355328 ∧ ∀ i, i < n → ((A i).size : Int) < 140737488355328 := by
  rcases Deep.open_slice1 Try.underlying22 cells9 h with ⟨rfl, rfl⟩ | ⟨a, len, cap, m, n, V, D, Pl, rfl, hb, hl, hm, hmm, rfl, hx⟩
  · exact ⟨.slice none 0 0, 0, fun _ => ⟨#[]⟩, rfl, ⟨none, 0, rfl, fun f => by omega⟩, by omega, fun i hi => by omega⟩
  · have hle : len ≤ m := by rw [hmm]; split <;> omega
    have hh := hz.head Try.underlying22
    rw [bytes9] at hh
    simp only [List.length_map, List.length_range] at hh
    refine ⟨_, len, fun i => strOf (V i), rfl, ⟨some a, cap, rfl, fun _ => ⟨a, rfl, hl, fun i hi => ?_⟩⟩, by omega, fun i hi => ?_⟩
    · obtain ⟨h1, h2⟩ := hx i (by omega)
      obtain ⟨z, e1, _⟩ := DataW.trod_string Try.underlying9 h2
      simp only [List.cons.injEq, and_true] at e1
      rw [h1]
      show some (V i) = some (.string (strOf (V i)))
      rw [e1]; rfl
    · obtain ⟨h1, h2⟩ := hx i (by omega)
      obtain ⟨z, e1, e2, _⟩ := DataW.trod_string Try.underlying9 h2
      simp only [List.cons.injEq, and_true] at e1
      have hs := hz.elem Try.underlying22 (d := D i) (List.mem_map.2 ⟨i, List.mem_range.2 hi, rfl⟩)
      rw [show D i = .lit (.string z.data.toList) from congrArg Prod.fst e2] at hs
      have := hs z.data.toList.length (by simp [DataW.weights])
      show ((strOf (V i)).size : Int) < _
      rw [e1]
      show ((z.size : Nat) : Int) < _
      have e : z.size = z.data.toList.length := by simp
      omega
/-- what is known of a value that was read -/
def RdP (v : Gv) : Prop := (v.x.size : Int) < 140737488355328
theorem read_st0 {fuel : Nat} {cs : List Value} {x : DataW H × List MemPlace} (h : DataW.trod enc Try.prog w base sp held fuel 72 cs = some x) (hz : Sz 72 x.1) :
    ∃ g : Gv, cs = [.int .i64 g.k, .int .i64 g.m, .int .i64 g.r, .string g.x] ∧ RdP g := by
  obtain ⟨xs, n, _, rfl, hl, hxl, hf⟩ := DataW.trod_struct Try.underlying72 h
  rw [cellsLP] at hl
  match cs, hl with
  | [c0, c1, c2, c3], _ =>
    match xs, hxl with
    | [y0, y1, y2, y3], _ =>
      have t0 := hf 0 _ rfl
      have t1 := hf 1 _ rfl
      have t2 := hf 2 _ rfl
      have t3 := hf 3 _ rfl
      simp [cells3, cells9] at t0 t1 t2 t3
      have hzz : ∀ n ∈ y3.1.weights Try.prog 9, n ≤ 140737488351232 := by
        intro n hn
        refine hz n ?_
        simp [DataW.weights, Try.underlying72, DataW.weightsEach]
        exact Or.inr (Or.inr (Or.inr hn))
      obtain ⟨z0, e0, _⟩ := DataW.trod_int Try.underlying3 t0
      obtain ⟨z1, e1, _⟩ := DataW.trod_int Try.underlying3 t1
      obtain ⟨z2, e2, _⟩ := DataW.trod_int Try.underlying3 t2
      obtain ⟨z3, e3, e3', _⟩ := DataW.trod_string Try.underlying9 t3
      simp only [List.cons.injEq, and_true] at e0 e1 e2 e3
      subst e0 e1 e2 e3
      refine ⟨⟨z0, z1, z3, z2⟩, rfl, ?_⟩
      have := hzz z3.data.toList.length (by rw [e3']; simp [DataW.weights])
      show ((z3.size : Nat) : Int) < _
      have e : z3.size = z3.data.toList.length := by simp
      omega
theorem read_st {fuel : Nat} {cs : List Value} {x : DataW H × List MemPlace} {b : Addr} (h : DataW.trod enc Try.prog w base sp held fuel 72 cs = some x) (hc : w.cells? base b 4 = some cs) (hz : Sz 72 x.1) :
    ∃ g : Gv, Js.ValC 0 w b g ∧ RdP g := by
  obtain ⟨_, hlen, hcell⟩ := World.cells?_some hc
  obtain ⟨g, rfl, hg⟩ := read_st0 h hz
  refine ⟨g, ⟨?_, ?_, ?_, ?_⟩, hg⟩
  · have := hcell 0 (by omega); simpa [Addr.add] using this
  · have := hcell 1 (by omega); simpa [Addr.add] using this
  · have := hcell 2 (by omega); simpa [Addr.add] using this
  · have := hcell 3 (by omega); simpa [Addr.add] using this
theorem read_sts {fuel : Nat} {cs : List Value} {x : DataW H × List MemPlace} (h : DataW.trod enc Try.prog w base sp held fuel 23 cs = some x) (hz : Sz 23 x.1) :
    ∃ (v : Value) (n : Nat) (C : Nat → Gv), cs = [v] ∧ Js.RowW 0 w v n C ∧ (n : Int) < 140737488355328 ∧ ∀ i, i < n → RdP (C i) := by
  rcases Deep.open_slice Try.underlying23 h with ⟨rfl, rfl⟩ | ⟨a, len, cap, m, n, D, Pl, rfl, hb, hl, hm, hmm, rfl, hx⟩
  · exact ⟨_, 0, fun _ => default, rfl, ⟨none, 0, rfl, fun f => by omega⟩, by omega, fun i hi => by omega⟩
  · have hle : len ≤ m := by rw [hmm]; split <;> omega
    have hh := hz.head Try.underlying23
    rw [bytesLP] at hh
    simp only [List.length_map, List.length_range] at hh
    rw [cellsLP] at hx
    obtain ⟨F, hF⟩ := Deep.choose_lt (α := Gv) (n := len) (p := fun i g => Js.ValC 0 w (a.add (i * 4)) g ∧ RdP g) (fun i hi => by
      obtain ⟨cs', h1, h2⟩ := hx i (by omega)
      exact read_st h2 h1 (hz.elem Try.underlying23 (List.mem_map.2 ⟨i, List.mem_range.2 hi, rfl⟩)))
    exact ⟨_, len, F, rfl, ⟨some a, cap, rfl, fun _ => ⟨a, rfl, hl, Nat.zero_le _, fun i hi => (hF i hi).1⟩⟩, by omega, fun i hi => (hF i hi).2⟩
theorem read_jour {cs : Array Value} {d : DataW H} {p : List MemPlace} (hcz : cs.size = 4) (h : DataW.Trod enc Try.prog w base sp held 25 (.agg cs) d p) (hz : Sz 25 d) :
    ∃ (J : Jd) (v u : Value), (Value.agg cs) = .agg #[v, .int .i64 J.p, .int .i64 J.q, u] ∧ Jr J w v u ∧ (J.n : Int) < 140737488355328 ∧ (J.m : Int) < 140737488355328 ∧ (∀ i, i < J.n → ((J.S i).size : Int) < 140737488355328) ∧ ∀ i, i < J.m → ((J.T i).x.size : Int) < 140737488355328 := by
  obtain ⟨fuel, hf⟩ := h
  obtain ⟨xs, n, _, hx, hl, hxl, hfi⟩ := DataW.trod_struct Try.underlying25 hf
  have hd := congrArg Prod.fst hx
  dsimp only at hd
  subst hd
  obtain ⟨l⟩ := cs
  match l, hcz with
  | [c0, c1, c2, c3], _ =>
    match xs, hxl with
    | [y0, y1, y2, y3], _ =>
      have t0 := hfi 0 _ rfl
      have t1 := hfi 1 _ rfl
      have t2 := hfi 2 _ rfl
      have t3 := hfi 3 _ rfl
      simp [Value.cells, cells3, cellsSs, cellsLPs] at t0 t1 t2 t3
      obtain ⟨v, nn, S, e0, r0, s0, s0'⟩ := read_strs t0 (fun n hn => hz n (by simp [DataW.weights, Try.underlying25, DataW.weightsEach, hn]))
      obtain ⟨z1, e1, _⟩ := DataW.trod_int Try.underlying3 t1
      obtain ⟨z2, e2, _⟩ := DataW.trod_int Try.underlying3 t2
      obtain ⟨u, mm, TT, e3, r3, s3, s3'⟩ := read_sts t3 (fun n hn => hz n (by simp [DataW.weights, Try.underlying25, DataW.weightsEach, hn]))
      simp only [List.cons.injEq, and_true] at e0 e1 e2 e3
      subst e0 e1 e2 e3
      exact ⟨⟨nn, S, z1, z2, mm, TT⟩, _, _, rfl, ⟨r0, r3⟩, s0, s3, s0', s3'⟩
end
theorem laidOut : laidOutB Try.prog = true := by kernel_rfl
theorem rJou : Try.prog.readableRec 25 = true ∧ 25 < Try.prog.types.size := ⟨by kernel_rfl, of_decide_eq_true (by kernel_rfl)⟩
theorem jou_stays {H : Type} {enc : TypeId × Value → H} {W W' : World} {v : Value} {d : DataW H} {p : List MemPlace} (h : DataW.Trod enc Try.prog W 0 (fun _ => true) true 25 v d p) (hlt : ∀ x ∈ p, x.block < W.heap.size) (hg : Kb 0 W W') : DataW.Trod enc Try.prog W' 0 (fun b => decide (b < W.heap.size)) true 25 v d p := by
  obtain ⟨fuel, hf⟩ := h
  refine ⟨fuel, DataW.trod_stays (kids_book laidOut rJou.1) (book_sized rJou.1) (fun h => by cases h) ⟨rJou.2, book_self 25⟩ hf (fun x hx => ?_) (fun x hx => by simpa using hlt x hx)⟩
  have hb := hlt x hx
  cases x with
  | cell b o => exact World.cell?_of_block (w := W) (hg.block b (Nat.zero_le _) hb)
  | map b => exact hg.block b (Nat.zero_le _) hb
end Go.Proofs.Ytdkmnggdelchkaa.Fo
