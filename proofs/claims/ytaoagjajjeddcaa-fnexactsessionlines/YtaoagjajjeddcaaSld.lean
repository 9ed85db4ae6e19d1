import Derived.Test.YtaoagjajjeddcaaSlc
import Derived.Test.YtaoagjajjeddcaaSla
import Derived.Deep.AppendLies
namespace Go.Proofs.Ytaoagjajjeddcaa.Fo
open Go.ChangeShapes Go.WideShapes Go.ChangeAt Go.RowKit
set_option linter.unusedVariables false
set_option maxRecDepth 100000

/-- the lines of an event -/
def lns (op n : Int) (x y : ByteArray) : List ByteArray := if op = 1 then [{ data := #[98, 101, 103, 105, 110] }] else if op = 2 then [{ data := #[105, 110, 112, 117, 116] }, y] else if op = 3 then List.replicate n.toNat { data := #[116, 105, 99, 107] } else if op = 4 then [{ data := #[115, 97, 121] }, x, y] else []
/-- a row that holds these texts -/
def RowS (W : World) (v : Value) (L : List ByteArray) : Prop := ∃ p c, v = .slice p L.length c ∧ (0 < L.length → ∃ a : Addr, p = some a ∧ L.length ≤ c ∧ ∀ j s, L[j]? = some s → W.cell? (a.add j) = some (.string s))
def LnP (L : List ByteArray) (W : World) (e : Ending) (w' : World) : Prop := ∃ v, e = .returned v ∧ RowS w' v L ∧ Kb 0 W w'
theorem add0 (b j : Nat) : (⟨b, 0, none⟩ : Addr).add j = ⟨b, j, none⟩ := by unfold Addr.add; split <;> simp_all
/-- a row of texts in a block of its own, as appends make it -/
theorem rows_own {W : World} {B : Nat} {v : Value} {L : List ByteArray} (h : W.ownsRow B 9 1 v L.length (L.map .string)) : RowS W v L := by
  rcases h.2 with ⟨e, e2⟩ | ⟨g, cap, cur, e, h2, h3, h4, h5, h6, h7⟩
  · exact ⟨none, 0, by rw [e, e2], fun q => by omega⟩
  · refine ⟨_, _, e, fun _ => ⟨_, rfl, h4, fun j s hs => ?_⟩⟩
    rw [add0]
    refine cell_of h3 ?_
    have hj := (List.getElem?_eq_some_iff.1 hs).1
    have e7 : (cur.toList.take (L.length * 1))[j]? = some (.string s) := by rw [h7, List.getElem?_map, hs]; rfl
    rw [Nat.mul_one, List.getElem?_take_of_lt hj] at e7
    simpa using e7
theorem rows_blk {W : World} {b : Nat} {L : List ByteArray} (h : W.heap[b]? = some (.cells (L.map Value.string).toArray 9 (0, 0))) {c : Nat} (hc : L.length ≤ c) : RowS W (.slice (some ⟨b, 0, none⟩) L.length c) L :=
  ⟨_, _, rfl, fun _ => ⟨_, rfl, hc, fun j s hs => by rw [add0]; exact cell_of h (by simp [hs])⟩⟩
set_option maxHeartbeats 8000000 in
theorem sp_ln_1 {n m k f l : Int} {x y z : ByteArray} {pk : Option Addr} {q ck : Nat} (w : World) :
    Calls Try.prog 32 #[.agg #[.int .i64 1, .int .i64 n, .int .i64 m, .string x, .string y, .int .i64 k, .int .i64 f, .int .i64 l, .string z, .slice pk q ck]] w (LnP [{ data := #[98, 101, 103, 105, 110] }] w) := by
  go_enter Try.func32, Try.ntmps32
  go_wp2_with fail
  go_ret
  exact ⟨_, rfl, rows_blk (L := [{ data := #[98, 101, 103, 105, 110] }]) (by rw [show (w.heap.size + 1) = (w.alloc (.cells #[.int .i64 1, .int .i64 n, .int .i64 m, .string x, .string y, .int .i64 k, .int .i64 f, .int .i64 l, .string z, .slice pk q ck] 35)).heap.size from (World.size_alloc _ _).symm]; exact alloc_new _ _ _) (Nat.le_refl _), kb_alloc2 _ _ _ _⟩
set_option maxHeartbeats 8000000 in
theorem sp_ln_2 {n m k f l : Int} {x y z : ByteArray} {pk : Option Addr} {q ck : Nat} (w : World) :
    Calls Try.prog 32 #[.agg #[.int .i64 2, .int .i64 n, .int .i64 m, .string x, .string y, .int .i64 k, .int .i64 f, .int .i64 l, .string z, .slice pk q ck]] w (LnP [{ data := #[105, 110, 112, 117, 116] }, y] w) := by
  go_enter Try.func32, Try.ntmps32
  go_wp2_with fail
  go_ret
  exact ⟨_, rfl, rows_blk (L := [{ data := #[105, 110, 112, 117, 116] }, y]) (by rw [show (w.heap.size + 1) = (w.alloc (.cells #[.int .i64 2, .int .i64 n, .int .i64 m, .string x, .string y, .int .i64 k, .int .i64 f, .int .i64 l, .string z, .slice pk q ck] 35)).heap.size from (World.size_alloc _ _).symm]; exact alloc_new _ _ _) (Nat.le_refl _), kb_alloc2 _ _ _ _⟩
set_option maxHeartbeats 8000000 in
theorem sp_ln_4 {n m k f l : Int} {x y z : ByteArray} {pk : Option Addr} {q ck : Nat} (w : World) :
    Calls Try.prog 32 #[.agg #[.int .i64 4, .int .i64 n, .int .i64 m, .string x, .string y, .int .i64 k, .int .i64 f, .int .i64 l, .string z, .slice pk q ck]] w (LnP [{ data := #[115, 97, 121] }, x, y] w) := by
  go_enter Try.func32, Try.ntmps32
  go_wp2_with fail
  go_ret
  exact ⟨_, rfl, rows_blk (L := [{ data := #[115, 97, 121] }, x, y]) (by rw [show (w.heap.size + 1) = (w.alloc (.cells #[.int .i64 4, .int .i64 n, .int .i64 m, .string x, .string y, .int .i64 k, .int .i64 f, .int .i64 l, .string z, .slice pk q ck] 35)).heap.size from (World.size_alloc _ _).symm]; exact alloc_new _ _ _) (Nat.le_refl _), kb_alloc2 _ _ _ _⟩
set_option maxHeartbeats 8000000 in
theorem im_ln_1 {n m k f l : Int} {x y z : ByteArray} {pk : Option Addr} {q ck : Nat} (w : World) :
    Calls Try.prog 33 #[.agg #[.int .i64 1, .int .i64 n, .int .i64 m, .string x, .string y, .int .i64 k, .int .i64 f, .int .i64 l, .string z, .slice pk q ck]] w (LnP [{ data := #[98, 101, 103, 105, 110] }] w) := by
  go_enter Try.func33, Try.ntmps33
  go_wp2_with fail
  go_ret
  exact ⟨_, rfl, rows_blk (L := [{ data := #[98, 101, 103, 105, 110] }]) (by rw [show (w.heap.size + 1) = (w.alloc (.cells #[.int .i64 1, .int .i64 n, .int .i64 m, .string x, .string y, .int .i64 k, .int .i64 f, .int .i64 l, .string z, .slice pk q ck] 35)).heap.size from (World.size_alloc _ _).symm]; exact alloc_new _ _ _) (Nat.le_refl _), kb_alloc2 _ _ _ _⟩
set_option maxHeartbeats 8000000 in
theorem sp_ln_x {op n m k f l : Int} {x y z : ByteArray} {pk : Option Addr} {q ck : Nat} (w : World) (h1 : ¬ op = 1) (h2 : ¬ op = 2) (h3 : ¬ op = 3) (h4 : ¬ op = 4) : Calls Try.prog 32 #[.agg #[.int .i64 op, .int .i64 n, .int .i64 m, .string x, .string y, .int .i64 k, .int .i64 f, .int .i64 l, .string z, .slice pk q ck]] w (LnP [] w) := by
  have e1 : (op == 1) = false := by simp; omega
  have e2 : (op == 2) = false := by simp; omega
  have e3 : (op == 3) = false := by simp; omega
  have e4 : (op == 4) = false := by simp; omega
  clear h1 h2 h3 h4
  go_enter Try.func32, Try.ntmps32
  go_wp2_with fail
  go_ret
  exact ⟨_, rfl, ⟨none, 0, rfl, fun q => absurd q (Nat.lt_irrefl 0)⟩, kb_alloc _ _ _⟩
set_option maxHeartbeats 8000000 in
theorem im_ln_x {op n m k f l : Int} {x y z : ByteArray} {pk : Option Addr} {q ck : Nat} (w : World) (h1 : ¬ op = 1) (h2 : ¬ op = 2) (h3 : ¬ op = 3) (h4 : ¬ op = 4) : Calls Try.prog 33 #[.agg #[.int .i64 op, .int .i64 n, .int .i64 m, .string x, .string y, .int .i64 k, .int .i64 f, .int .i64 l, .string z, .slice pk q ck]] w (LnP [] w) := by
  have e1 : (op == 1) = false := by simp; omega
  have e2 : (op == 2) = false := by simp; omega
  have e3 : (op == 3) = false := by simp; omega
  have e4 : (op == 4) = false := by simp; omega
  clear h1 h2 h3 h4
  go_enter Try.func33, Try.ntmps33
  go_wp2_with fail
  go_ret
  exact ⟨_, rfl, ⟨none, 0, rfl, fun q => absurd q (Nat.lt_irrefl 0)⟩, kb_alloc _ _ _⟩
end Go.Proofs.Ytaoagjajjeddcaa.Fo
