import Derived.Test.YtgocahalfanpjaaDoorNba
import Derived.Deep.AppendLies
namespace Go.Proofs.YtgocahalfanpjaaDoor.Fo
open Go.ChangeShapes Go.WideShapes Go.ChangeAt Go.RowKit
set_option linter.unusedVariables false
set_option maxRecDepth 100000
noncomputable def dc (p : Prop) : Bool := @decide p (Classical.propDecidable p)
theorem dc_t {p : Prop} (h : p) : dc p = true := @decide_eq_true p (Classical.propDecidable p) h
theorem dc_f {p : Prop} (h : ¬ p) : dc p = false := @decide_eq_false p (Classical.propDecidable p) h
theorem qr_cells (w : World) (c : Array Value) (t : TypeId) (l : List Value) (hl : c.toList = l) : ∀ j u, l[j]? = some u → (w.alloc (.cells c t)).cell? ((⟨w.heap.size, 0, none⟩ : Addr).add j) = some u := by
  intro j u hj
  subst hl
  rw [addr0]
  exact cell_of (alloc_new w c t) (by simpa using hj)
theorem own_shape {W : World} {B t s n : Nat} {v : Value} {l : List Value} (h : W.ownsRow B t s v n l) : ∃ p c, v = .slice p n c := by
  rcases h.2 with ⟨e, e2⟩ | ⟨g, cap, cur, e, _⟩
  · exact ⟨none, 0, by rw [e, e2]⟩
  · exact ⟨_, _, e⟩
theorem kb_app {w wr w8 : World} {B t s n : Nat} {v : Value} {l : List Value} {ob : Obj} (hk : Kb 0 w wr) (ho : wr.ownsRow B t s v n l) (hB : w.heap.size ≤ B) (hg : (wr.alloc ob).grownBy w8 v.ownBlock) : Kb 0 w w8 :=
  ⟨hg.os.trans hk.os, hg.output.trans hk.output, by have := hg.size; rw [World.size_alloc] at this; have := hk.size; omega, fun q h1 h2 => by
    have hq := hk.size
    exact ((hg.block q (by rw [World.size_alloc]; omega) (fun e => by have := (ho.lt q e.symm).1; omega)).trans ((kb_alloc 0 wr ob).block q (Nat.zero_le _) (by omega))).trans (hk.block q h1 h2)⟩
theorem infoT : ∃ i1, Tryd.prog.info? 9 = some i1 ∧ i1.zero = some (.string ⟨#[]⟩) ∧ i1.size = 1 ∧ i1.bytes = 16 := ⟨Tryd.t9, by kernel_rfl, by kernel_rfl, by kernel_rfl, by kernel_rfl⟩
theorem own_keep8 {W W' : World} {B t s n : Nat} {v : Value} {l : List Value} (h : W.ownsRow B t s v n l) (hb : ∀ g, v.ownBlock = some g → W'.heap[g]? = W.heap[g]?) : W'.ownsRow B t s v n l := by
  refine ⟨h.1, ?_⟩
  rcases h.2 with h1 | ⟨g, cap, cur, h1, h2, h3, h4⟩
  · exact .inl h1
  · exact .inr ⟨g, cap, cur, h1, h2, (hb g (by rw [h1]; rfl)).trans h3, h4⟩
theorem kb_app8 {w wr w8 : World} {B t s n : Nat} {v : Value} {l : List Value} (hk : Kb 0 w wr) (ho : wr.ownsRow B t s v n l) (hB : w.heap.size ≤ B) (hg : wr.grownBy w8 v.ownBlock) : Kb 0 w w8 :=
  ⟨hg.os.trans hk.os, hg.output.trans hk.output, Nat.le_trans hk.size hg.size, fun q h1 h2 => by
    have hq := hk.size
    exact (hg.block q (by omega) (fun e => by have := (ho.lt q e.symm).1; omega)).trans (hk.block q h1 h2)⟩
theorem own_cap {W : World} {B t s n : Nat} {v : Value} {l : List Value} (h : W.ownsRow B t s v n l) : ∃ p c, v = .slice p n c ∧ n ≤ c := by
  rcases h.2 with ⟨e, e2⟩ | ⟨g, cap, cur, e, _, _, e4, _⟩
  · exact ⟨none, 0, by rw [e, e2], by omega⟩
  · exact ⟨_, _, e, e4⟩

/-- bytes that a part may hold -/
def okb (c : UInt8) : Bool := decide ((97 ≤ c.toNat ∧ c.toNat ≤ 122) ∨ (48 ≤ c.toNat ∧ c.toNat ≤ 57) ∨ c.toNat = 95 ∨ c.toNat = 45)
def okp (p : List UInt8) : Bool := !p.isEmpty && p.all okb
/-- bytes cut at the slashes -/
def spB : List UInt8 → List (List UInt8)
  | [] => [[]]
  | b :: r => if b = 47 then [] :: spB r else match spB r with
    | [] => [[b]]
    | p :: ps => (b :: p) :: ps
def att (p : List UInt8) : List (List UInt8) → List (List UInt8)
  | [] => [p]
  | q :: qs => (p ++ q) :: qs
theorem spB_ne (l : List UInt8) : spB l ≠ [] := by
  cases l with
  | nil => simp [spB]
  | cons b r =>
    unfold spB
    split
    · simp
    · split <;> simp
theorem att_nil {l : List (List UInt8)} (h : l ≠ []) : att [] l = l := by
  cases l with
  | nil => exact absurd rfl h
  | cons q qs => rfl
theorem att_47 (p r : List UInt8) : att p (spB (47 :: r)) = p :: spB r := by
  have e : spB (47 :: r) = [] :: spB r := by rw [spB, if_pos rfl]
  rw [e]
  show (p ++ []) :: spB r = p :: spB r
  rw [List.append_nil]
theorem att_b (p r : List UInt8) {b : UInt8} (h : b ≠ 47) : att p (spB (b :: r)) = att (p ++ [b]) (spB r) := by
  rw [spB, if_neg h]
  cases e : spB r with
  | nil => exact absurd e (spB_ne r)
  | cons q qs =>
    show (p ++ b :: q) :: qs = (p ++ [b] ++ q) :: qs
    rw [List.append_assoc]; rfl
theorem spB_len (l : List UInt8) : (spB l).length ≤ l.length + 1 := by
  induction l with
  | nil => simp [spB]
  | cons b r ih =>
    unfold spB
    split
    · simp; omega
    · split
      · simp
      · rename_i p ps e
        rw [e] at ih
        simp at ih ⊢
        omega
/-- a name's parts walked from a row on: the code, the row -/
def wst : List (List UInt8) → List (List UInt8) → Int × List (List UInt8)
  | row, [] => (0, row)
  | row, p :: ps => if p = [46] then wst row ps else if p = [46, 46] then (if row = [] then (2, []) else wst row.dropLast ps) else if okp p = true then wst (row ++ [p]) ps else (1, [])
def jn : List (List UInt8) → List UInt8
  | [] => []
  | [p] => p
  | p :: q :: r => p ++ 47 :: jn (q :: r)
/-- what Clean answers -/
def cln (row : List (List UInt8)) (l : List UInt8) : Int × List UInt8 :=
  if 60 < l.length then (3, []) else if (wst row (spB l)).1 ≠ 0 then ((wst row (spB l)).1, []) else if (wst row (spB l)).2 = [] then (1, []) else if 60 < (jn (wst row (spB l)).2).length then (3, []) else (0, jn (wst row (spB l)).2)
/-- bytes as a text -/
def bt (l : List UInt8) : ByteArray := ⟨l.toArray⟩
theorem bt_list (l : List UInt8) : (bt l).toList = l := by rw [Lib.toList_data]; rfl
theorem bt_eq (s : ByteArray) : bt s.data.toList = s := by unfold bt; simp
theorem bt_size (l : List UInt8) : (bt l).size = l.length := by show l.toArray.size = _; simp
def stv (l : List (List UInt8)) : List Value := l.map (fun p => .string (bt p))
theorem stv_len (l : List (List UInt8)) : (stv l).length = l.length := by unfold stv; rw [List.length_map]
theorem stv_app (l m : List (List UInt8)) : stv (l ++ m) = stv l ++ stv m := by unfold stv; rw [List.map_append]
end Go.Proofs.YtgocahalfanpjaaDoor.Fo
