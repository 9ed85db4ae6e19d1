import Derived.MapKept
import Derived.Test.YtamcnmnaadpfoaaMGcp
import Derived.Test.YtamcnmnaadpfoaaMGde
namespace Go.Proofs.Ytamcnmnaadpfoaa.Fo
open Go.ChangeShapes Go.WideShapes Go.ChangeAt Go.RowKit
set_option linter.unusedVariables false
set_option maxRecDepth 100000
/-- the pointer to node r of a row that begins at A -/
def pk (A : Addr) (r : Int) : Value := .pointer (some (A.add (r.toNat * 2)))
theorem tP : Try.prog.underlying 140 = some (.pointer 50) := by kernel_rfl
theorem sizT (w : World) : (sizeOf 50).run Try.prog w = .ok 2 w := by kernel_rfl
theorem ad_b (A : Addr) (n : Nat) : (A.add n).block = A.block := by unfold Addr.add; split <;> rfl
theorem ad_o (A : Addr) (n : Nat) : (A.add n).off = A.off + n := by
  unfold Addr.add
  split
  · rename_i h; rw [h]; rfl
  · rfl
theorem add_inj {A : Addr} {r s : Int} (hr : 0 ≤ r) (hs : 0 ≤ s) : (A.add (r.toNat * 2) == A.add (s.toNat * 2)) = dc (r = s) := by
  by_cases h : r = s
  · subst h; rw [dc_t rfl]; simp
  · rw [dc_f h]
    rw [beq_eq_false_iff_ne]
    intro e
    have : A.off + r.toNat * 2 = A.off + s.toNat * 2 := by
      have := congrArg Addr.off e
      rwa [ad_o, ad_o] at this
    omega
theorem eq_pk {A : Addr} {r s : Int} (hr : 0 ≤ r) (hs : 0 ≤ s) (w : World) : (Op.equal 140 (pk A r) (pk A s)).run Try.prog w = .ok (dc (r = s)) w := by
  show (Op.equalIn (9999 + 1) 140 (.pointer (some (A.add (r.toNat * 2)))) (.pointer (some (A.add (s.toNat * 2))))).run Try.prog w = _
  unfold Op.equalIn
  simp only [Sem.run_bind, run_underlying tP, Result.andThen_ok, sizT, sameAddr, ad_b]
  simp
  exact add_inj (A := A) hr hs
/-- the number of a node in the list, if it is there -/
noncomputable def lkn (r : Int) : List Int → Nat → Option Int
  | [], _ => none
  | x :: L, k => if dc (r = x) then some (k : Int) else lkn r L (k + 1)
theorem lkn_spec (r : Int) : ∀ (L : List Int) (k : Nat), lkn r L k = if r ∈ L then some ((L.idxOf r + k : Nat) : Int) else none
  | [], k => by rw [if_neg (by simp)]; rfl
  | x :: L, k => by
    unfold lkn
    by_cases h : r = x
    · subst h
      rw [dc_t rfl, if_pos rfl, if_pos (List.mem_cons_self)]
      simp
    · rw [dc_f h, if_neg (by simp), lkn_spec r L (k + 1)]
      by_cases q : r ∈ L
      · rw [if_pos q, if_pos (List.mem_cons_of_mem _ q), List.idxOf_cons, show (x == r) = false from beq_eq_false_iff_ne.2 (fun e => h e.symm)]
        have : L.idxOf r + (k + 1) = L.idxOf r + 1 + k := by omega
        rw [this]
        rfl
      · rw [if_neg q, if_neg (by simp [h, q])]
/-- the entries: the nodes of the list with their places -/
def pes (A : Addr) : List Int → Nat → List (Value × Value)
  | [], _ => []
  | x :: L, k => (pk A x, .int .i64 (k : Int)) :: pes A L (k + 1)
theorem pes_app (A : Addr) (x : Int) : ∀ (L : List Int) (k : Nat), pes A (L ++ [x]) k = pes A L k ++ [(pk A x, .int .i64 ((L.length + k : Nat) : Int))]
  | [], k => by simp [pes]
  | y :: L, k => by
    show _ :: pes A (L ++ [x]) (k + 1) = _ :: (pes A L (k + 1) ++ _)
    rw [pes_app A x L (k + 1)]
    have : L.length + (k + 1) = (y :: L).length + k := by simp only [List.length_cons]; omega
    rw [this]
def Ents (A : Addr) (l : List MapEntry) (L : List Int) (k : Nat) : Prop := l.map (fun e => (e.key, e.val)) = pes A L k
theorem run_ask {A : Addr} {r : Int} (hr : 0 ≤ r) (w : World) : ∀ (l : List MapEntry) (L : List Int) (k i : Nat), (∀ x ∈ L, 0 ≤ x) → Ents A l L k → ∃ q, (Instr.findAsking 140 (pk A r) l i).run Try.prog w = .ok q w ∧ q.map Prod.snd = (lkn r L k).map (fun t => Value.int .i64 t)
  | [], L, k, i, hL, h => by
    have : L = [] := by
      cases L with
      | nil => rfl
      | cons p L => simp [Ents, pes] at h
    subst this
    exact ⟨none, rfl, rfl⟩
  | e :: l, L, k, i, hL, h => by
    cases L with
    | nil => simp [Ents, pes] at h
    | cons p L =>
      have h' : (e.key = pk A p ∧ e.val = .int .i64 (k : Int)) ∧ Ents A l L (k + 1) := by simpa [Ents, pes] using h
      obtain ⟨⟨h1, h2⟩, h3⟩ := h'
      unfold Instr.findAsking
      simp only [Sem.run_bind, h1, eq_pk hr (hL p List.mem_cons_self), Result.andThen_ok]
      unfold lkn
      cases q : dc (r = p)
      · simp only [Bool.false_eq_true, if_false]
        exact run_ask hr w l L (k + 1) (i + 1) (fun x hx => hL x (List.mem_cons_of_mem _ hx)) h3
      · simp only [if_true]
        exact ⟨some (i, e.val), rfl, by simp [h2]⟩
theorem run_findPk {A : Addr} {r : Int} (hr : 0 ≤ r) (w : World) (l : List MapEntry) (L : List Int) (hL : ∀ x ∈ L, 0 ≤ x) (h : Ents A l L 0) : ∃ q, (Instr.findKey 140 (pk A r) l).run Try.prog w = .ok q w ∧ q.map Prod.snd = (lkn r L 0).map (fun t => Value.int .i64 t) := by
  unfold Instr.findKey
  simp only [Sem.run_bind, run_underlying tP, Result.andThen_ok]
  cases l with
  | nil =>
    have : L = [] := by
      cases L with
      | nil => rfl
      | cons p L => simp [Ents, pes] at h
    subst this
    exact ⟨none, rfl, rfl⟩
  | cons e l =>
    have : Instr.findNow (.pointer 50) (pk A r) (e :: l) 0 = none := rfl
    rw [this]
    exact run_ask hr w (e :: l) L 0 0 hL h
theorem run_checkPk (b : Bool) (A : Addr) (r : Int) (w : World) : (Instr.checkKey b 10000 140 (pk A r)).run Try.prog w = .ok () w := by kernel_rfl
/-- block M is a map from the nodes of the list to their places -/
def Mn (A : Addr) (M : Nat) (L : List Int) (w : World) : Prop := ∃ es clock, w.heap[M]? = some (.map es clock) ∧ Ents A es.toList L 0
theorem tM : Try.prog.underlying 134 = some (.map 140 3) := by kernel_rfl
theorem run_lookPk {A : Addr} {r : Int} {w : World} {M : Nat} {L : List Int} (h : Mn A M L w) (hr : 0 ≤ r) (hL : ∀ x ∈ L, 0 ≤ x) : (Instr.lookup 134 (.map (some M)) (pk A r) true).run Try.prog w = .ok (if r ∈ L then .tuple #[.int .i64 (L.idxOf r : Int), .bool true] else .tuple #[.int .i64 0, .bool false]) w := by
  obtain ⟨es, clock, hb, he⟩ := h
  obtain ⟨q, hq, hv⟩ := run_findPk hr w es.toList L hL he
  rw [lkn_spec] at hv
  unfold Instr.lookup
  simp only [Sem.run_bind, run_underlying tM, Result.andThen_ok, MapKept.run_getObj_map hb, Sem.run_pure, run_checkPk, hq]
  by_cases m : r ∈ L
  · rw [if_pos m] at hv ⊢
    cases q with
    | none => cases hv
    | some p =>
      obtain ⟨i, v⟩ := p
      have : v = .int .i64 (L.idxOf r : Int) := by simpa using hv
      subst this
      rfl
  · rw [if_neg m] at hv ⊢
    cases q with
    | none =>
      have hz : (zeroValue 3).run Try.prog w = .ok (.int .i64 0) w := by kernel_rfl
      simp only [Sem.run_bind, hz, Result.andThen_ok, Sem.run_pure]
      rfl
    | some p => cases hv
/-- the world with another block M -/
def setB (w : World) (M : Nat) (o : Obj) : World := { w with heap := w.heap.setIfInBounds M o }
theorem setB_ne (w : World) (M : Nat) (o : Obj) (b : Nat) (h : b ≠ M) : (setB w M o).heap[b]? = w.heap[b]? := by
  unfold setB
  show (w.heap.setIfInBounds M o)[b]? = _
  rw [Array.getElem?_setIfInBounds, if_neg (fun e => h e.symm)]
theorem setB_size (w : World) (M : Nat) (o : Obj) : (setB w M o).heap.size = w.heap.size := by
  unfold setB
  show (w.heap.setIfInBounds M o).size = _
  rw [Array.size_setIfInBounds]
theorem run_updPk {A : Addr} {r : Int} {w : World} {M : Nat} {L : List Int} (h : Mn A M L w) (hr : 0 ≤ r) (hL : ∀ x ∈ L, 0 ≤ x) (hn : r ∉ L) : ∃ o, (Instr.mapUpdate 134 (.map (some M)) (pk A r) (.int .i64 (L.length : Int))).run Try.prog w = .ok () (setB w M o) ∧ Mn A M (L ++ [r]) (setB w M o) := by
  obtain ⟨es, clock, hb, he⟩ := h
  obtain ⟨q, hq, hv⟩ := run_findPk hr w es.toList L hL he
  rw [lkn_spec, if_neg hn] at hv
  have hr0 : q = none := by
    cases q with
    | none => rfl
    | some p => cases hv
  subst hr0
  refine ⟨.map (es.push { key := pk A r, val := .int .i64 (L.length : Int), born := clock }) (clock + 1), ?_, ?_⟩
  · unfold Instr.mapUpdate
    simp only [Sem.run_bind, run_underlying tM, Result.andThen_ok, MapKept.run_getObj_map hb, run_checkPk, hq, MapKept.run_setObj_map _ hb]
    rfl
  · refine ⟨_, _, (MapKept.heap_set hb).1, ?_⟩
    unfold Ents at he ⊢
    simp [he, pes_app]
theorem run_makePk (w : World) : (Instr.makeMap 134 none).run Try.prog w = .ok (.map (some w.heap.size)) (w.alloc (.map #[] 0)) := by kernel_rfl
theorem Mn.new (A : Addr) (w : World) : Mn A w.heap.size [] (w.alloc (.map #[] 0)) := ⟨#[], 0, (MapKept.heap_alloc w _).1, rfl⟩
theorem Mn.keep {A : Addr} {M : Nat} {L : List Int} {w W : World} (h : Mn A M L w) (k : W.heap[M]? = w.heap[M]?) : Mn A M L W := by
  obtain ⟨es, clock, hb, he⟩ := h
  exact ⟨es, clock, k.trans hb, he⟩
end Go.Proofs.Ytamcnmnaadpfoaa.Fo
