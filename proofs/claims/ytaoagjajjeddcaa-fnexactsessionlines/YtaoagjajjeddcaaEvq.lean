import Derived.Test.YtaoagjajjeddcaaEvp
import Derived.Test.YtaoagjajjeddcaaStd
import Derived.Deep.Slices
import Derived.SizedLaws
import Derived.Carry
namespace Go.Proofs.Ytaoagjajjeddcaa.Fo
open Go.ChangeShapes Go.WideShapes Go.ChangeAt Go.RowKit
set_option linter.unusedVariables false
set_option maxRecDepth 100000
def Sz {H : Type} (t : TypeId) (d : DataW H) : Prop := ∀ n ∈ d.weights Try.prog t, n ≤ 140737488351232
theorem weightsAll_mem {H : Type} {e : TypeId} : ∀ {l : List (DataW H)} {d : DataW H} {n : Nat}, d ∈ l → n ∈ d.weights Try.prog e → n ∈ DataW.weightsAll Try.prog e l
  | [], _, _, h, _ => by cases h
  | x :: r, d, n, h, hn => by
    simp only [DataW.weightsAll, List.mem_append]
    rcases List.mem_cons.1 h with rfl | h
    · exact Or.inl hn
    · exact Or.inr (weightsAll_mem h hn)
theorem Sz.head {H : Type} {t e : TypeId} {el sp : List (DataW H)} (h : Sz t (.slice el sp)) (ht : Try.prog.underlying t = some (.slice e)) : (el.length + sp.length) * Try.prog.bytesOf e ≤ 140737488351232 := h _ (by simp [DataW.weights, ht])
theorem Sz.elem {H : Type} {t e : TypeId} {el sp : List (DataW H)} (h : Sz t (.slice el sp)) (ht : Try.prog.underlying t = some (.slice e)) {d : DataW H} (hd : d ∈ el) : Sz e d := fun n hn => h n (by
  simp only [DataW.weights, ht, List.mem_cons, List.mem_append]
  exact Or.inr (Or.inl (weightsAll_mem hd hn)))
def boolOf : Value → Bool
  | .bool b => b
  | _ => false
theorem cellsBo : Try.prog.cellsOf 4 = 1 := by kernel_rfl
theorem bytesBo : Try.prog.bytesOf 4 = 1 := by kernel_rfl
theorem read_bools {H : Type} {enc : TypeId × Value → H} {w : World} {base : Nat} {sp : Nat → Bool} {held : Bool} {fuel : Nat} {cs : List Value} {x : DataW H × List MemPlace} (h : DataW.trod enc Try.prog w base sp held fuel 29 cs = some x) (hz : Sz 29 x.1) :
    ∃ (v : Value) (n : Nat) (A : Nat → Bool), cs = [v] ∧ RowV w v n (fun i => .bool (A i)) ∧ (n : Int) < 140737488355328 := by
  rcases Deep.open_slice1 Try.underlying29 cellsBo h with ⟨rfl, rfl⟩ | ⟨a, len, cap, m, n, V, D, Pl, rfl, hb, hl, hm, hmm, rfl, hx⟩
  · exact ⟨.slice none 0 0, 0, fun _ => false, rfl, ⟨none, 0, rfl, fun f => by omega⟩, by omega⟩
  · have hle : len ≤ m := by rw [hmm]; split <;> omega
    have hh := hz.head Try.underlying29
    rw [bytesBo] at hh
    simp only [List.length_map, List.length_range] at hh
    have key : ∀ i, i < len → w.cell? (a.add i) = some (.bool (boolOf (V i))) := fun i hi => by
      obtain ⟨h1, h2⟩ := hx i (by omega)
      obtain ⟨z, e1, _⟩ := DataW.trod_bool Try.underlying4 h2
      simp only [List.cons.injEq, and_true] at e1
      rw [h1]
      show some (V i) = some (.bool (boolOf (V i)))
      rw [e1]; rfl
    exact ⟨_, len, fun i => boolOf (V i), rfl, ⟨some a, cap, rfl, fun _ => ⟨a, rfl, hl, fun i hi => key i hi⟩⟩, by omega⟩

theorem cellsLE : Try.prog.cellsOf 31 = 10 := by kernel_rfl
theorem cellsBos : Try.prog.cellsOf 29 = 1 := by kernel_rfl
theorem rEvent : Try.prog.readableRec 31 = true ∧ 31 < Try.prog.types.size := ⟨by kernel_rfl, of_decide_eq_true (by kernel_rfl)⟩
theorem event_stays {H : Type} {enc : TypeId × Value → H} {W W' : World} {v : Value} {d : DataW H} {p : List MemPlace} (h : DataW.Trod enc Try.prog W 0 (fun _ => true) true 31 v d p) (hlt : ∀ x ∈ p, x.block < W.heap.size) (hg : Kb 0 W W') : DataW.Trod enc Try.prog W' 0 (fun b => decide (b < W.heap.size)) true 31 v d p := by
  obtain ⟨fuel, hf⟩ := h
  refine ⟨fuel, DataW.trod_stays (kids_book laidOut rEvent.1) (book_sized rEvent.1) (fun h => by cases h) ⟨rEvent.2, book_self 31⟩ hf (fun x hx => ?_) (fun x hx => by simpa using hlt x hx)⟩
  have hb := hlt x hx
  cases x with
  | cell b o => exact World.cell?_of_block (w := W) (hg.block b (Nat.zero_le _) hb)
  | map b => exact hg.block b (Nat.zero_le _) hb
theorem read_event {H : Type} {enc : TypeId × Value → H} {w : World} {base : Nat} {sp : Nat → Bool} {held : Bool} {fuel : Nat} {cs : List Value} {X : DataW H × List MemPlace} (hcz : cs.length = 10) (h : DataW.trod enc Try.prog w base sp held fuel 31 cs = some X) (hz : Sz 31 X.1) :
    ∃ (op n m k f l : Int) (x y z : ByteArray) (pk : Option Addr) (q ck : Nat) (A : Nat → Bool), cs = [.int .i64 op, .int .i64 n, .int .i64 m, .string x, .string y, .int .i64 k, .int .i64 f, .int .i64 l, .string z, .slice pk q ck] ∧ RowV w (.slice pk q ck) q (fun i => .bool (A i)) ∧ (x.size : Int) ≤ 9223372036854775807 ∧ (y.size : Int) ≤ 9223372036854775807 ∧ (z.size : Int) ≤ 9223372036854775807 ∧ (q : Int) ≤ 9223372036854775807 := by
  obtain ⟨xs, N, _, rfl, hl, hxl, hfi⟩ := DataW.trod_struct Try.underlying31 h
  match cs, hcz with
  | [c0, c1, c2, c3, c4, c5, c6, c7, c8, c9], _ =>
    match xs, hxl with
    | [y0, y1, y2, y3, y4, y5, y6], _ =>
      have t0 := hfi 0 _ rfl
      have t1 := hfi 1 _ rfl
      have t2 := hfi 2 _ rfl
      have t3 := hfi 3 _ rfl
      have t4 := hfi 4 _ rfl
      have t5 := hfi 5 _ rfl
      have t6 := hfi 6 _ rfl
      simp [cells3, cellsS, cellsLS, cellsBos] at t0 t1 t2 t3 t4 t5 t6
      have hzz : ∀ n ∈ y6.1.weights Try.prog 29, n ≤ 140737488351232 := by
        intro n hn
        refine hz n ?_
        simp [DataW.weights, Try.underlying31, DataW.weightsEach]
        simp [hn]
      obtain ⟨z0, e0, _⟩ := DataW.trod_int Try.underlying3 t0
      obtain ⟨z1, e1, _⟩ := DataW.trod_int Try.underlying3 t1
      obtain ⟨z2, e2, _⟩ := DataW.trod_int Try.underlying3 t2
      obtain ⟨z3, e3, _, g3⟩ := DataW.trod_string Try.underlying9 t3
      obtain ⟨z4, e4, _, g4⟩ := DataW.trod_string Try.underlying9 t4
      obtain ⟨k, f, l, s, e5, g5⟩ := read_stop (cs := #[c5, c6, c7, c8]) rfl ⟨_, t5⟩
      obtain ⟨v, q, A, e6, r6, s6⟩ := read_bools t6 hzz
      obtain ⟨pk, ck, rfl, -⟩ := id r6
      simp only [List.cons.injEq, and_true, Value.agg.injEq, Array.mk.injEq] at e0 e1 e2 e3 e4 e5 e6
      obtain ⟨rfl, rfl, rfl, rfl⟩ := e5
      subst e0 e1 e2 e3 e4 e6
      exact ⟨z0, z1, z2, k, f, l, z3, z4, s, pk, q, ck, A, rfl, r6, by unfold maxLen at g3; omega, by unfold maxLen at g4; omega, g5, by omega⟩
end Go.Proofs.Ytaoagjajjeddcaa.Fo
