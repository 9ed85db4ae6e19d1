import Derived.Test.YtbbjbojjglhgmaaMGcc
namespace Go.Proofs.Ytbbjbojjglhgmaa.Fo
open Go.ChangeShapes Go.WideShapes Go.ChangeAt Go.RowKit
set_option linter.unusedVariables false
set_option maxRecDepth 100000
/-- the nodes met so far, and those that a value leads to -/
def ext (o : List Int) (v : Gv) : List Int := if v.k = 4 then (if v.r ∈ o then o else o ++ [v.r]) else o
/-- a value with the new number of its node -/
def rnm (o : List Int) (v : Gv) : Gv := if v.k = 4 then ⟨v.k, v.m, v.x, (o.idxOf v.r : Int)⟩ else v
theorem ext_pre (o : List Int) (v : Gv) : ∃ t, ext o v = o ++ t := by
  unfold ext
  split
  · split
    · exact ⟨[], (List.append_nil _).symm⟩
    · exact ⟨_, rfl⟩
  · exact ⟨[], (List.append_nil _).symm⟩
theorem ext_mem {o : List Int} {v : Gv} (h : v.k = 4) : v.r ∈ ext o v := by
  unfold ext
  rw [if_pos h]
  split
  · assumption
  · exact List.mem_append.2 (.inr (List.mem_singleton.2 rfl))
theorem rnm_pre {o t : List Int} {v : Gv} (h : v.k = 4 → v.r ∈ o) : rnm (o ++ t) v = rnm o v := by
  unfold rnm
  split
  · rename_i hk
    rw [List.idxOf_append, if_pos (h hk)]
  · rfl
/-- the nodes met behind the first j of a row of values -/
def exts (o : List Int) (C : Nat → Gv) : Nat → List Int
  | 0 => o
  | j + 1 => ext (exts o C j) (C j)
theorem exts_pre (o : List Int) (C : Nat → Gv) : ∀ j, ∃ t, exts o C j = o ++ t
  | 0 => ⟨[], (List.append_nil _).symm⟩
  | j + 1 => by
    obtain ⟨t, e⟩ := exts_pre o C j
    obtain ⟨t', e'⟩ := ext_pre (exts o C j) (C j)
    exact ⟨t ++ t', by show ext (exts o C j) (C j) = _; rw [e', e, List.append_assoc]⟩
theorem exts_mem {o : List Int} {C : Nat → Gv} : ∀ {j k : Nat}, k < j → (C k).k = 4 → (C k).r ∈ exts o C j
  | 0, _, h, _ => by omega
  | j + 1, k, h, hk => by
    obtain ⟨t, e⟩ := ext_pre (exts o C j) (C j)
    by_cases q : k = j
    · subst q; exact ext_mem hk
    · show _ ∈ ext (exts o C j) (C j)
      rw [e]
      exact List.mem_append.2 (.inl (exts_mem (by omega) hk))
def nth (o : List Int) (i : Nat) : Nat := (o.getD i 0).toNat
/-- the nodes met when the first i of them have been gone through -/
def ords (F : Nat → Td) (o : List Int) : Nat → List Int
  | 0 => o
  | i + 1 => if i < (ords F o i).length then exts (ords F o i) (F (nth (ords F o i) i)).C (F (nth (ords F o i) i)).c else ords F o i
theorem ords_succ (F : Nat → Td) (o : List Int) (i : Nat) : ords F o (i + 1) = if i < (ords F o i).length then exts (ords F o i) (F (nth (ords F o i) i)).C (F (nth (ords F o i) i)).c else ords F o i := rfl
theorem ords_pre (F : Nat → Td) (o : List Int) (i : Nat) : ∃ t, ords F o (i + 1) = ords F o i ++ t := by
  rw [ords_succ]
  split
  · exact exts_pre _ _ _
  · exact ⟨[], (List.append_nil _).symm⟩
/-- a list of nodes of a graph of n, none twice -/
structure Nl (n : Nat) (o : List Int) : Prop where
  nd : o.Nodup
  rg : ∀ x, x ∈ o → 0 ≤ x ∧ x < (n : Int)
theorem nl_len : ∀ (n : Nat) (o : List Int), Nl n o → o.length ≤ n
  | 0, o, h => by
    cases o with
    | nil => exact Nat.le_refl _
    | cons x r => have := h.rg x (List.mem_cons_self); omega
  | n + 1, o, h => by
    by_cases q : (n : Int) ∈ o
    · have e := List.length_erase_of_mem q
      have hp : 0 < o.length := List.length_pos_of_mem q
      have := nl_len n (o.erase (n : Int)) ⟨h.nd.erase _, fun x hx => by
        obtain ⟨h1, h2⟩ := (h.nd.mem_erase_iff).1 hx
        have := h.rg x h2
        omega⟩
      omega
    · have := nl_len n o ⟨h.nd, fun x hx => by
        have := h.rg x hx
        have : x ≠ (n : Int) := fun e => q (e ▸ hx)
        omega⟩
      omega
theorem nl_ext {n : Nat} {o : List Int} {v : Gv} (h : Nl n o) (hv : v.k = 4 → 0 ≤ v.r ∧ v.r < (n : Int)) : Nl n (ext o v) := by
  unfold ext
  split
  · rename_i hk
    split
    · exact h
    · rename_i hm
      refine ⟨?_, fun x hx => ?_⟩
      · rw [List.nodup_append]
        refine ⟨h.nd, List.nodup_cons.2 ⟨by simp, List.nodup_nil⟩, ?_⟩
        intro a ha b hb e
        rw [List.mem_singleton] at hb
        subst hb
        exact hm (e ▸ ha)
      · rcases List.mem_append.1 hx with q | q
        · exact h.rg x q
        · rw [List.mem_singleton] at q
          subst q
          exact hv hk
  · exact h
theorem nl_exts {n : Nat} {o : List Int} {C : Nat → Gv} (h : Nl n o) : ∀ j, (∀ k, k < j → (C k).k = 4 → 0 ≤ (C k).r ∧ (C k).r < (n : Int)) → Nl n (exts o C j)
  | 0, _ => h
  | j + 1, hv => nl_ext (nl_exts h j (fun k hk => hv k (by omega))) (hv j (by omega))
/-- the place of a node in the list, -1 when it is not there -/
def wh (o : List Int) (j : Nat) : Int := if (j : Int) ∈ o then (o.idxOf (j : Int) : Int) else -1
/-- the row 'where' of the model -/
def Wh (G n : Nat) (o : List Int) (W : World) : Prop := (∀ j, j < n → W.cell? ⟨G, j, none⟩ = some (.int .i64 (wh o j))) ∧ ∀ j, W.frozen? ⟨G, j, none⟩ = false
theorem wh_app {o : List Int} {r j : Nat} (h : ¬ (r : Int) ∈ o) : wh (o ++ [(r : Int)]) j = if j = r then (o.length : Int) else wh o j := by
  unfold wh
  by_cases e : j = r
  · subst e
    rw [if_pos rfl, if_pos (List.mem_append.2 (.inr (List.mem_singleton.2 rfl))), List.idxOf_append, if_neg h]
    simp
  · rw [if_neg e]
    by_cases q : (j : Int) ∈ o
    · rw [if_pos (List.mem_append.2 (.inl q)), if_pos q, List.idxOf_append, if_pos q]
    · rw [if_neg, if_neg q]
      intro z
      rcases List.mem_append.1 z with z | z
      · exact q z
      · rw [List.mem_singleton] at z
        omega
theorem Wh.app {G n r : Nat} {o : List Int} {W : World} (h : Wh G n o W) (hr : r < n) (hm : ¬ (r : Int) ∈ o) : Wh G n (o ++ [(r : Int)]) (W.setCell ⟨G, r, none⟩ (.int .i64 (o.length : Int))) := by
  refine ⟨fun j hj => ?_, fun j => (set_fz _ _ _ _ _).trans (h.2 j)⟩
  rw [wh_app hm]
  by_cases e : j = r
  · subst e
    rw [if_pos rfl]
    exact set_eq _ _ _ _ _ (h.1 j hj)
  · rw [if_neg e, set_ne _ _ _ _ _ e]
    exact h.1 j hj
theorem Wh.keep {G n : Nat} {o : List Int} {W W' : World} (h : Wh G n o W) (hb : W'.heap[G]? = W.heap[G]?) : Wh G n o W' :=
  ⟨fun j hj => (World.cell?_of_block hb).trans (h.1 j hj), fun j => (World.frozen?_of_block hb).trans (h.2 j)⟩
/-- of the blocks that were there only G and r are written -/
structure Fo2 (G : Nat) (r : Option Nat) (W w' : World) : Prop where
  os : w'.os = W.os
  output : w'.output = W.output
  size : W.heap.size ≤ w'.heap.size
  block : ∀ k, k < W.heap.size → k ≠ G → some k ≠ r → w'.heap[k]? = W.heap[k]?
theorem Fo2.of_kb {G : Nat} {r : Option Nat} {W w' : World} (k : Kb 0 W w') : Fo2 G r W w' := ⟨k.os, k.output, k.size, fun i hi _ _ => k.block i (Nat.zero_le _) hi⟩
end Go.Proofs.Ytbbjbojjglhgmaa.Fo
