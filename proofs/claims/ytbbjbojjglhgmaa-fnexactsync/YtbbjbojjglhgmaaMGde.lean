import Derived.Test.YtbbjbojjglhgmaaMGdd
namespace Go.Proofs.Ytbbjbojjglhgmaa.Fo
open Go.ChangeShapes Go.WideShapes Go.ChangeAt Go.RowKit
set_option linter.unusedVariables false
set_option maxRecDepth 100000
theorem ords_stop {F : Nat → Td} {o : List Int} {i : Nat} (h : (ords F o i).length ≤ i) : ∀ d, ords F o (i + d) = ords F o i
  | 0 => rfl
  | d + 1 => by
    show ords F o (i + d + 1) = _
    rw [ords_succ, ords_stop h d, if_neg (by omega)]
theorem vcl_len (o : List Int) (C : Nat → Gv) : ∀ j, (vcl o C j).length = j * 4
  | 0 => rfl
  | j + 1 => by
    show (vcl o C j ++ gcl (rnm o (C j))).length = _
    rw [List.length_append, vcl_len o C j]
    show j * 4 + 4 = _
    omega
theorem vcl_at (o : List Int) (C : Nat → Gv) {k t : Nat} (ht : t < 4) : ∀ {j}, k < j → (vcl o C j)[k * 4 + t]? = (gcl (rnm o (C k)))[t]?
  | 0, h => by omega
  | j + 1, h => by
    show (vcl o C j ++ gcl (rnm o (C j)))[k * 4 + t]? = _
    by_cases e : k = j
    · subst e
      rw [List.getElem?_append_right (by rw [vcl_len]; omega), vcl_len]
      congr 1
      omega
    · rw [List.getElem?_append_left (by rw [vcl_len]; omega)]
      exact vcl_at o C ht (by omega)
theorem ncl_len (F : Nat → Td) (o : List Int) (V : Nat → Value) : ∀ j, (ncl F o V j).length = j * 2
  | 0 => rfl
  | j + 1 => by
    show (ncl F o V j ++ [.int .i64 (F (nth o j)).t, V j]).length = _
    rw [List.length_append, ncl_len F o V j]
    show j * 2 + 2 = _
    omega
theorem ncl_at (F : Nat → Td) (o : List Int) (V : Nat → Value) {k t : Nat} (ht : t < 2) : ∀ {j}, k < j → (ncl F o V j)[k * 2 + t]? = ([.int .i64 (F (nth o k)).t, V k] : List Value)[t]?
  | 0, h => by omega
  | j + 1, h => by
    show (ncl F o V j ++ [.int .i64 (F (nth o j)).t, V j])[k * 2 + t]? = _
    by_cases e : k = j
    · subst e
      rw [List.getElem?_append_right (by rw [ncl_len]; omega), ncl_len]
      congr 1
      omega
    · rw [List.getElem?_append_left (by rw [ncl_len]; omega)]
      exact ncl_at F o V ht (by omega)
theorem own_cells {W : World} {B : Nat} {t : TypeId} {s n : Nat} {v : Value} {l : List Value} (h : W.ownsRow B t s v n l) (hn : 0 < n) : ∃ g cap, v = .slice (some ⟨g, 0, none⟩) n cap ∧ B ≤ g ∧ n ≤ cap ∧ ∀ i, i < n * s → W.cell? ⟨g, i, none⟩ = l[i]? := by
  have hlen := h.1
  rcases h.2 with ⟨_, e⟩ | ⟨g, cap, cur, h1, h2, h3, h4, h5, h6, h7⟩
  · omega
  · refine ⟨g, cap, h1, h2, h4, fun i hi => ?_⟩
    have e : l[i]? = cur[i]? := by
      rw [← h7, List.getElem?_take_of_lt hi, Array.getElem?_toList]
    have hl : i < l.length := by omega
    rw [List.getElem?_eq_getElem hl]
    rw [List.getElem?_eq_getElem hl] at e
    exact cell_of h3 e.symm
theorem own_vals {W : World} {B : Nat} {v : Value} {o : List Int} {C : Nat → Gv} {c : Nat} (h : W.ownsRow B 24 4 v c (vcl o C c)) : RowW B W v c (fun j => rnm o (C j)) := by
  obtain ⟨ad, cap, rfl⟩ := own_shape h
  refine ⟨ad, cap, rfl, fun hn => ?_⟩
  obtain ⟨g, cap', e, hB, hc, hcell⟩ := own_cells h hn
  injection e with e1 e2 e3
  subst e1
  subst e3
  refine ⟨_, rfl, hc, hB, fun i hi => ?_⟩
  rw [addr0]
  exact CelV.of (fun t ht => (hcell _ (by omega)).trans (vcl_at o C ht hi))
/-- the canonical nodes -/
def cnF (F : Nat → Td) (o : List Int) (k : Nat) : Td := ⟨(F (nth o k)).t, (F (nth o k)).c, fun j => rnm o ((F (nth o k)).C j)⟩
theorem CS.row {w : World} {n : Nat} {F : Nat → Td} {a : Gv} {pn : Option Addr} {cn : Nat} {o : List Int} {i : Nat} {vo vn : Value} {V : Nat → Value} {W : World} (h : CS w n F a pn cn o i vo vn V W) : RowT (w.heap.size + 4) W vn i (cnF F o) := by
  have hn' := h.nn
  obtain ⟨ad, cap, rfl⟩ := own_shape hn'
  refine ⟨ad, cap, rfl, fun hn => ?_⟩
  obtain ⟨g, cap', e, hB, hc, hcell⟩ := own_cells hn' hn
  injection e with e1 e2 e3
  subst e1
  subst e3
  refine ⟨_, rfl, hc, hB, fun k hk => ?_⟩
  rw [addr0]
  exact ⟨V k, CelT.of (fun t ht => (hcell _ (by omega)).trans (ncl_at F o V ht hk)), own_vals (h.vs k hk)⟩
/-- links lead to nodes -/
structure Lk (n : Nat) (F : Nat → Td) (a : Gv) : Prop where
  lr : a.k = 4 → 0 ≤ a.r ∧ a.r < (n : Int)
  lv : ∀ i, i < n → ∀ j, j < (F i).c → ((F i).C j).k = 4 → 0 ≤ ((F i).C j).r ∧ ((F i).C j).r < (n : Int)
theorem nth_lt {n : Nat} {o : List Int} (h : Nl n o) {i : Nat} (hi : i < o.length) : nth o i < n ∧ o[i]? = some ((nth o i : Nat) : Int) := by
  have hm := h.rg o[i] (List.getElem_mem hi)
  have e : o.getD i 0 = o[i] := by rw [List.getD, List.getElem?_eq_getElem hi]; rfl
  unfold nth
  rw [e, List.getElem?_eq_getElem hi]
  exact ⟨by omega, by rw [Int.toNat_of_nonneg hm.1]⟩
/-- five cells written in a row -/
def s5 (W : World) (B : Nat) (k m : Int) (x : ByteArray) (r : Int) (v : Value) : World := (s4 W B k m x r).setCell ⟨B, 4, none⟩ v
theorem s5_far {k : Nat} (W : World) (B : Nat) (a m : Int) (x : ByteArray) {r : Int} (v : Value) (h : k ≠ B) : (s5 W B a m x r v).heap[k]? = W.heap[k]? := by
  unfold s5
  rw [Below.heap_setCell _ _ _ _ h, s4_far _ _ _ _ _ h]
theorem s5_size (W : World) (B : Nat) (a m : Int) (x : ByteArray) (r : Int) (v : Value) : (s5 W B a m x r v).heap.size = W.heap.size := by
  unfold s5
  rw [World.size_setCell, s4_size]
theorem s4_known {W : World} {B : Nat} {u0 u1 u2 u3 u4 : Value} {t : TypeId} (h : W.heap[B]? = some (.cells #[u0, u1, u2, u3, u4] t (0, 0))) (k m : Int) (x : ByteArray) (r : Int) : (s4 W B k m x r).heap[B]? = some (.cells #[.int .i64 k, .int .i64 m, .string x, .int .i64 r, u4] t (0, 0)) := by
  unfold s4
  have h0 : (W.setCell ⟨B, 0, none⟩ (.int .i64 k)).heap[B]? = some (.cells #[.int .i64 k, u1, u2, u3, u4] t (0, 0)) := set_known _ h
  have h1 : ((W.setCell ⟨B, 0, none⟩ (.int .i64 k)).setCell ⟨B, 1, none⟩ (.int .i64 m)).heap[B]? = some (.cells #[.int .i64 k, .int .i64 m, u2, u3, u4] t (0, 0)) := set_known _ h0
  have h2 : (((W.setCell ⟨B, 0, none⟩ (.int .i64 k)).setCell ⟨B, 1, none⟩ (.int .i64 m)).setCell ⟨B, 2, none⟩ (.string x)).heap[B]? = some (.cells #[.int .i64 k, .int .i64 m, .string x, u3, u4] t (0, 0)) := set_known _ h1
  exact set_known _ h2
theorem s5_known {W : World} {B : Nat} {u0 u1 u2 u3 u4 : Value} {t : TypeId} (h : W.heap[B]? = some (.cells #[u0, u1, u2, u3, u4] t (0, 0))) (k m : Int) (x : ByteArray) (r : Int) (v : Value) : (s5 W B k m x r v).heap[B]? = some (.cells #[.int .i64 k, .int .i64 m, .string x, .int .i64 r, v] t (0, 0)) := by
  unfold s5
  exact set_known _ (s4_known h k m x r)
/-- the row 'where' while it is filled -/
def WhP (G n k : Nat) (W : World) : Prop := (∀ j, j < n → W.cell? ⟨G, j, none⟩ = some (.int .i64 (if j < k then -1 else 0))) ∧ ∀ j, W.frozen? ⟨G, j, none⟩ = false
theorem WhP.step {G n k : Nat} {W : World} (h : WhP G n k W) (hk : k < n) : WhP G n (k + 1) (W.setCell ⟨G, k, none⟩ (.int .i64 (-1))) := by
  refine ⟨fun j hj => ?_, fun j => (set_fz _ _ _ _ _).trans (h.2 j)⟩
  by_cases e : j = k
  · subst e
    rw [if_pos (by omega)]
    exact set_eq _ _ _ _ _ (h.1 j hj)
  · rw [set_ne _ _ _ _ _ e, h.1 j hj]
    by_cases q : j < k
    · rw [if_pos q, if_pos (by omega)]
    · rw [if_neg q, if_neg (by omega)]
theorem WhP.full {G n : Nat} {W : World} (h : WhP G n n W) : Wh G n [] W :=
  ⟨fun j hj => by rw [h.1 j hj, if_pos hj]; rfl, h.2⟩
theorem WhP.keep {G n k : Nat} {W W' : World} (h : WhP G n k W) (hb : W'.heap[G]? = W.heap[G]?) : WhP G n k W' :=
  ⟨fun j hj => (World.cell?_of_block hb).trans (h.1 j hj), fun j => (World.frozen?_of_block hb).trans (h.2 j)⟩
end Go.Proofs.Ytbbjbojjglhgmaa.Fo
