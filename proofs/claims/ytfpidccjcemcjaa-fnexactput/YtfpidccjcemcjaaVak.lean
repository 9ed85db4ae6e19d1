import Derived.Test.YtfpidccjcemcjaaVac
import Derived.Deep.Slices
import Derived.SizedLaws
import Derived.Carry
namespace Go.Proofs.Ytfpidccjcemcjaa
open Go.ChangeShapes Go.WideShapes Go.ChangeAt Go.RowKit
set_option linter.unusedVariables false
set_option maxRecDepth 100000

set_option maxHeartbeats 1000000 in
theorem sz_val (v : Vv) (l : Int) (hl : 0 ≤ l ∧ l ≤ 1048576) (hx : (v.x.size : Int) < 140737488355328) (w : World) : Calls Try.prog 9 #[vv v, .int .i64 l] w fun e w' => e = .returned (.int .i64 (if (v.x.size : Int) ≤ l then l - (v.x.size : Int) else -1)) ∧ Grown w w' := by
  obtain ⟨k, m, g, x, r⟩ := v
  unfold vv
  dsimp only at hx ⊢
  have hw : IntKind.i64.wrap (l - (x.size : Int)) = l - (x.size : Int) := by simp only [IntKind.wrap_i64]; omega
  by_cases h : (x.size : Int) ≤ l
  · rw [if_pos h]
    have h2 : ¬ l - (x.size : Int) < 0 := by omega
    go_enter Try.func9, Try.ntmps9
    go_wp2_with fail
    go_ret
    exact ⟨rfl, by go_grown⟩
  · rw [if_neg h]
    have h2 : l - (x.size : Int) < 0 := by omega
    go_enter Try.func9, Try.ntmps9
    go_wp2_with fail
    go_ret
    exact ⟨rfl, by go_grown⟩
set_option maxHeartbeats 1000000 in
theorem to_val (v : Vv) (w : World) : Calls Try.prog 11 #[vv v] w fun e w' => e = .returned (vv v) ∧ Grown w w' := by
  obtain ⟨k, m, g, x, r⟩ := v
  unfold vv
  dsimp only
  have hst : ∀ (a : Addr) (n : Nat) (m : Mode) (w : World), (store a (.float .f64 n) m).run Try.prog w = stored Try.prog w a (.float .f64 n) m := fun a n m w => run_store _ _ _ _ _ rfl
  go_enter Try.func11, Try.ntmps11
  go_wp2_with fail
  first
    | (go_ret; exact ⟨rfl, by go_grown⟩)
    | (refine bodyPost_ret (by simp [results, Try.results11, go_sem]; rfl) rfl ?_; exact ⟨rfl, by go_grown⟩)
theorem cells3 : Try.prog.cellsOf 3 = 1 := by kernel_rfl
theorem cells2 : Try.prog.cellsOf 2 = 1 := by kernel_rfl
theorem cells9 : Try.prog.cellsOf 9 = 1 := by kernel_rfl
theorem cellsF : Try.prog.cellsOf 22 = 1 := by kernel_rfl
theorem cellsV : Try.prog.cellsOf 24 = 5 := by kernel_rfl
theorem laidOut : laidOutB Try.prog = true := by kernel_rfl
theorem rVal : Try.prog.readableRec 24 = true ∧ 24 < Try.prog.types.size := ⟨by kernel_rfl, of_decide_eq_true (by kernel_rfl)⟩
def Sz {H : Type} (t : TypeId) (d : DataW H) : Prop := ∀ n ∈ d.weights Try.prog t, n ≤ 140737488351232
theorem val_stays {H : Type} {enc : TypeId × Value → H} {W W' : World} {v : Value} {d : DataW H} {p : List MemPlace} (h : DataW.Trod enc Try.prog W 0 (fun _ => true) true 24 v d p) (hlt : ∀ x ∈ p, x.block < W.heap.size) (hg : Grown W W') : DataW.Trod enc Try.prog W' 0 (fun b => decide (b < W.heap.size)) true 24 v d p := by
  obtain ⟨fuel, hf⟩ := h
  refine ⟨fuel, DataW.trod_stays (kids_book laidOut rVal.1) (book_sized rVal.1) (fun h => by cases h) ⟨rVal.2, book_self 24⟩ hf (fun x hx => ?_) (fun x hx => by simpa using hlt x hx)⟩
  have hb := hlt x hx
  cases x with
  | cell b o => exact World.cell?_of_block (w := W) (grown_block hg hb)
  | map b => exact grown_block hg hb
section
variable {H : Type} {enc : TypeId × Value → H} {w : World} {base : Nat} {sp : Nat → Bool} {held : Bool}
set_option maxRecDepth 100000 in
theorem trod_flt {fuel : Nat} {t : TypeId} {cs : List Value} {x : DataW H × List MemPlace} (ht : Try.prog.underlying t = some (.float .f64)) (h : DataW.trod enc Try.prog w base sp held fuel t cs = some x) : ∃ n, cs = [.float .f64 n] ∧ n < 18446744073709551616 := by
  cases fuel with
  | zero => simp [DataW.trod] at h
  | succ n =>
    unfold DataW.trod at h
    rw [ht] at h
    split at h <;> simp_all
    rename_i k b e
    subst e
    obtain ⟨⟨h1, h2⟩, _⟩ := h
    simpa [Lit.wf] using h2
/-- the bounds of a value's fields -/
structure Vb (v : Vv) : Prop where
  k : -9223372036854775808 ≤ v.k ∧ v.k ≤ 9223372036854775807
  m : -9223372036854775808 ≤ v.m ∧ v.m ≤ 9223372036854775807
  g : v.g < 18446744073709551616
  x : (v.x.size : Int) < 140737488355328
  r : -9223372036854775808 ≤ v.r ∧ v.r ≤ 9223372036854775807
set_option maxRecDepth 100000 in
theorem read_val {cs : Array Value} {d : DataW H} {p : List MemPlace} (hcz : cs.size = 5) (h : DataW.Trod enc Try.prog w base sp held 24 (.agg cs) d p) (hz : Sz 24 d) : ∃ v : Vv, (Value.agg cs) = vv v ∧ Vb v := by
  obtain ⟨fuel, hf⟩ := h
  obtain ⟨xs, n, _, hx, hl, hxl, hfi⟩ := DataW.trod_struct Try.underlying24 hf
  have hd := congrArg Prod.fst hx
  dsimp only at hd
  subst hd
  obtain ⟨l⟩ := cs
  match l, hcz with
  | [c0, c1, c2, c3, c4], _ =>
    match xs, hxl with
    | [y0, y1, y2, y3, y4], _ =>
      have t0 := hfi 0 _ rfl
      have t1 := hfi 1 _ rfl
      have t2 := hfi 2 _ rfl
      have t3 := hfi 3 _ rfl
      have t4 := hfi 4 _ rfl
      simp [Value.cells, cells3, cells2, cells9, cellsF] at t0 t1 t2 t3 t4
      obtain ⟨z0, e0, _, g0⟩ := DataW.trod_int Try.underlying3 t0
      obtain ⟨z1, e1, _, g1⟩ := DataW.trod_int Try.underlying2 t1
      obtain ⟨z2, e2, g2⟩ := trod_flt Try.underlying22 t2
      obtain ⟨z3, e3, e3', _⟩ := DataW.trod_string Try.underlying9 t3
      obtain ⟨z4, e4, _, g4⟩ := DataW.trod_int Try.underlying3 t4
      simp only [List.cons.injEq, and_true] at e0 e1 e2 e3 e4
      subst e0 e1 e2 e3 e4
      refine ⟨⟨z0, z1, z2, z3, z4⟩, rfl, ?_, ?_, g2, ?_, ?_⟩
      · have := g0; simp [Lit.wf, IntKind.min, IntKind.max, IntKind.signed, IntKind.bits] at this; show -9223372036854775808 ≤ z0 ∧ z0 ≤ 9223372036854775807; omega
      · have := g1; simp [Lit.wf, IntKind.min, IntKind.max, IntKind.signed, IntKind.bits] at this; show -9223372036854775808 ≤ z1 ∧ z1 ≤ 9223372036854775807; omega
      · have := hz z3.data.toList.length (by simp [DataW.weights, Try.underlying24, DataW.weightsEach, e3'])
        show ((z3.size : Nat) : Int) < _
        have e : z3.size = z3.data.toList.length := by simp
        omega
      · have := g4; simp [Lit.wf, IntKind.min, IntKind.max, IntKind.signed, IntKind.bits] at this; show -9223372036854775808 ≤ z4 ∧ z4 ≤ 9223372036854775807; omega
end
end Go.Proofs.Ytfpidccjcemcjaa
